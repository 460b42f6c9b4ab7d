import PyProof.Rows.All
import Wide.All
import OpenK.AllK
import Wide.FinOn
import Lean
import PyProof.EqAt
import PyProof.EqKinds
import PyProof.TupleCall
import PySem.Challenge.RW_outweave_k53_rows_in_time
set_option Elab.async false
set_option linter.all false
set_option maxRecDepth 100000
set_option maxHeartbeats 4000000
local macro_rules|`(tactic|omega)=>`(tactic|first|lia|fail)
set_option genInjectivity false in
set_option genSizeOf false in
structure PySem.W.Fast where
 (tw7880962440625685360 tw1244054951009888116 tw5784980287066139392 tw16292531610177916593 tw6043820507479608411 tw6320889532411475575 tw1795995680560999455 tw806258180230300345 tw17407158609466711495 tw12914074345582674427 tw17021014034237425951 tw10233928484590750602 tw17610408438830835552 tw5100603013527901533 tw4636080320895816564 tw11697446511008323702 tw3696555803976603971 tw17495459839759578405 tw16854324390350405404 tw2404867185218846018 tw488744924523752981 tw9138439059558256456 tw3957152016147501780 tw15455843529376962799 tw13660371417668098556 tw11125567244511863192 tw1366316472980071745 tw16045298820764366669 tw10426280404863417366 tw12687111521063988107 tw7240128881919527444 tw6156653587771561811 tw3435276318154693726 tw17714629724850581610 tw12280215741503930013 tw15871914943675158738 tw636159360678553213 tw8386270993291700614 tw10744535831532804656 tw2925722061161649296 tw16492036341929902450 tw1610694931287216725 tw3867921875356581247 tw12647938559258730543 tw17288373079128731818 tw16897570624571507113 tw9763677837925923426 tw7848829141579117003 tw8481546423671670346 tw16169818941526668038 tw13763768052402270669 tw2367009498119195616 tw9536929104098619815 tw6723912342381906612 tw12531875034886548296 tw12530244863369304278 tw7343355314903477959 tw15725815856877297675 tw16845495276636860742 tw7459619880444599503 tw1317692852378698973 tw8308270140854805900 tw7808781905111949385 tw1472603451365336127 tw10804736703141407650 tw15440852880485401961 tw15137328893016084126 tw13574888090539878603 tw7884288446055994206 tw5556393815969977173 tw1220706346840196441 tw9040697158265874752 tw17023407694701990722 tw6413130813673473955 tw5481342268997564031 tw2650611571317139270 tw16503747446019406279 tw15479366909277975476 tw14537175389775608538 tw13364498472141843374 tw10401181588476622131 tw12994025783021562017 tw16940789284483037088 tw12369297882890234327 tw7836442122004442056 tw17761078225234597773 tw14854215371323900500 tw6027239153999589409 tw6012565447501370532 tw566702220692118210 tw5588700962716370797 tw15346182880855014989 tw14916175829974942091 tw6901294041731879669 tw15531613390180166698 tw15042266562430051783 tw1652556890647672087 tw17809916500328636759 tw8244258780222434182 tw16218308659157747842 tw265503305696870890 tw12993410822851031690 tw4939007460350161848 tw3618809453003090061 tw1320024397387846720 tw1000169449411051502 tw1644973174211876465 tw17513663634432414508 tw7438254394668308829 tw11147225376821261065 tw4236668450525185296 tw15571153198258469358 tw12066241828142885372 tw17849552242430438697 tw9579880786203094348 tw6357101705179425525 tw18272580860007090357 tw5368972569292823941 tw10443566651427173241 tw4383899786753956008 tw14732731109080188067 tw11047734100439434998 tw6425125478908600819 tw17322105508676505875 tw10121780798572158441 tw16929763971023810549 tw16686686950061161380 tw7424859470313815823 tw10518409099627823566 tw2458791604241571439 tw3247298998477615617 tw2715406896682873954 tw1378199802950467272 tw7561217961810699017 tw2826607669142783839 tw17489410883405139586 tw15518106380605217248 tw7539047067678910164 tw6114819471723771578 tw9980342904327832089 tw4705182956218708291 tw16564948525039430878 tw6159530224826585382 tw7817641878409874803 tw11128124292760133558 tw1925499639100711971 tw12400304698715340907 tw2089189625094186203 tw16868463002263071971 tw9345496841943686895 tw17706309544670374702 tw9975108464602921256 tw15454602058038836107 tw1926517367121033000 tw13142912736758807887 tw12247576224754509930 tw6441199987416578897 tw6413520823649204780 tw6169947466246272512 tw17482666976304366267 tw12771604834074296560 tw15241130091551461317 tw7808749426734105376 tw7323745987035219532 tw9690184120289591876 tw2620362790322232718 tw11065283982486481543 tw8951328687255261898 tw6269074136619239561 tw5859963948976938965 tw12927842611730352045 tw16616666001638030389 tw9244112994689550839 tw4391528300597765754 tw4694863973703813726 tw493014184191913051 tw8193565452866034422 tw8091075964752129518 tw9676171556030389956 tw17150347200429611370 tw5997858553450283362 tw6399440105758128587 tw919037157524981400 tw4928873029959361165 tw8435773917627531828 tw5024992778601476907 tw495553491797307145 tw12201438721779361704 tw9527823143798998999 tw12361732266196912930 tw17553113812571709383 tw9578742567279183545 tw13981706292110735062 tw7695752839134717599 tw17854724717060430303 tw9723016519818178040 tw6789156840103082989 tw13916248023281866734 tw13649318167625990522 tw16234494390810487209 tw4944308935194016299 tw17443354754357445805 tw11596240065999650547 tw4619228259277195554 tw13027622320183761201 tw3106098935079795185 tw8248718043626289627 tw217129015613330549 tw13891019157250704484 tw16016557821832424560 tw7405847027921348307 tw10000234366046537948 tw15401874439393423380 tw15224189629264302248 tw5486701445365229448 tw8880800505957741948 tw9399418521267616257 tw12981540279554448020 tw4024035935801864322 tw7817065794111728654 tw3853401723209529992 tw907440532699669295 tw6230610598054114084 tw133349276649094944 tw11204170989742200050 tw11978294613174188369 tw8279834900397610010 tw2407861781086244233 tw13107354572543422971 tw8230881704824155628 tw7512010677844983433 tw4417906463311110032 tw13318015822181139380 tw918805691519003505 tw6491851416905970148 tw15481567210718876465 tw14790886511976815008 tw12562107789890136562 tw7408861226572829650 tw15032062071387412726 tw12674447113941041727 tw10547747941553733743 tw12082032418273864904 tw10277327913302929688 tw6159453020522964061 tw15214597396959985882 tw8571349545732723925 tw4427926142035354877 tw16303131540558147911 tw12525348523523880180 tw1030490765123044535 tw7985226840819293574 tw17313933315622367066 tw10147131313016161326 tw3836096603800415179 tw14487587050398217643 tw10914205907324186069 tw707743911010350836 tw16766881229565257606 tw13836332716519128779 tw11438821405055801377 tw4305281519170443204 tw12111680074390341464 tw14114717684377724233 tw8851064006501096025 tw5415527755028721941 tw4409477003844879546 tw12673354636081794991 tw8325488952030116478 tw4723520006072347948 tw15382568933389217821 tw10980983049450273777 tw3250760392006307359 tw2815899602393888366 tw14391175679481058252 tw18394909703570600360 tw1703002260822794007 tw10173593554366896009 tw9173095285276271937 tw12332290058998350498 tw17453942963169756681 tw15057810034533090208 tw12581471903458778854 tw14190057080519499545 tw8453927825314157215 tw12118998863129834416 tw1146796741781725835 tw3027225423379503735 tw6936833030071664111 tw6619324472903282478 tw2356878508610111587 tw4863635407853425589 tw9590303806886556320 tw15594722099529036372 tw11555775853674184612 tw7924977257236493680 tw2201059924857838963 tw13877099989716088454 tw12530251402556280591 tw3702858717877988078:Unit)
noncomputable section
section
open PySem PyProof.Rows
abbrev za:=@wpAny_bind
abbrev zb:=@wpAny_pure
abbrev zc:=@Nat.le_refl
abbrev zd:=@List.length_map
abbrev ze:=@List.mem_cons_self
abbrev zf:=@List.length_append
abbrev zg:=@List.map_cons
abbrev zh:=@List.getElem?_set_ne
abbrev zj:=@Heap.lt_size
abbrev zk:=@decide_eq_false
abbrev zl:=@List.mem_cons
abbrev zm:=@List.mem_singleton
abbrev zo:=@Heap.get?_push_of_some
abbrev zp:=@List.mem_cons_of_mem
abbrev zq:=@Nat.ne_of_lt
abbrev zt:=@List.getElem?_eq_some_iff
abbrev zu:=@decide_eq_true
abbrev zv:=@Bool.false_ne_true
abbrev zw:=@List.getElem?_eq_getElem
abbrev zx:=@Bool.and_eq_true
abbrev zy:=@Heap.get?_push_size
abbrev zz:=@List.length_cons
abbrev zA:=@List.mem_map
abbrev zB:=@List.mem_append
abbrev zC:=@Option.some.inj
abbrev zD:=@List.getElem?_append_left
abbrev zE:=@List.getElem?_map
abbrev zF:=@List.size_toArray
abbrev zG:=@Nat.le_trans
abbrev zH:=@List.append_assoc
abbrev zI:=@Nat.lt_of_lt_of_le
abbrev zJ:=@List.append_nil
abbrev zK:=@List.getElem?_append_right
abbrev zL:=@List.mem_of_getElem?
abbrev zM:=@List.length_singleton
abbrev zN:=@List.map_append
abbrev zO:=@List.nil_append
abbrev zP:=@wpAny_holding
abbrev zQ:=@List.getElem?_set_self
abbrev zR:=@List.map_map
abbrev zS:=@List.mem_append_right
abbrev zT:=@wpAny_mono
abbrev zU:=@Nat.lt_irrefl
abbrev zV:=@List.length_set
abbrev zW:=@List.length_nil
abbrev zX:=@List.map_nil
abbrev zY:=@wpAny_rule
abbrev zZ:=@codeAny_builtin
abbrev ja:=@List.getElem?_cons_zero
abbrev jb:=@Nat.lt_succ_self
abbrev jc:=@List.all_eq_true
abbrev jd:=@List.map_congr_left
abbrev je:=@List.getElem?_cons_succ
abbrev jf:=@List.getD_eq_getElem?_getD
abbrev jg:=@Nat.lt_succ_of_lt
abbrev jh:=@List.getElem_mem
abbrev jj:=@of_decide_eq_true
abbrev jk:=@List.mem_append_left
abbrev jm:=@Nat.zero_add
abbrev jo:=@List.nodup_append
abbrev jp:=@Heap.get?_update_other
abbrev jq:=@Option.map_eq_some_iff
abbrev jr:=@List.getElem?_eq_none
abbrev js:=@wpAny_updateSeq
abbrev jt:=@Int.emod_nonneg
abbrev ju:=@Int.emod_lt_of_pos
end
namespace L2
open PySem PySem.Spec PyProof.Rows
abbrev Key:=Sum Int Str
def mW:Key->Value->Bool
 | .inl k,v=>Value.isInt k v
 | .inr x,v=>Value.isStrOf x v
def N5(w:World):Key->Int
 | .inl k=>hashInt k
 | .inr x=>hashStr w x
theorem jw:∀{k:Key}{v:Value},mW k v=true->(∃i t,k=Sum.inl i/\v=Value.int i t)\/(∃x t,k=Sum.inr x/\v=Value.str x t)
 | .inl i,v,h=>by
  obtain⟨t,e⟩:=Value.isInt_shape h;exact .inl ⟨i,t,rfl,e⟩
 | .inr x,v,h=>by
  obtain⟨t,e⟩:=Value.isStrOf_shape h;exact .inr ⟨x,t,rfl,e⟩
def N6(i:Int)(t:Tok):mW (.inl i) (.int i t)=true:=by simp[mW,Value.isInt]
def N7(x:Str)(t:Tok):mW (.inr x) (.str x t)=true:=by simp[mW,Value.isStrOf]
def N8(a b:Int):decide ((Sum.inl a:Key)=Sum.inl b)=(a == b):=by
 by_cases e:a=b
 ·subst e;simp
 ·have h:¬(Sum.inl a:Key)=Sum.inl b:=λq=>e (Sum.inl.inj q)
  rw[zk h];exact(beq_eq_false_iff_ne.mpr e).symm
def Oa(a b:Str):decide ((Sum.inr a:Key)=Sum.inr b)=decide (a=b):=by
 by_cases e:a=b
 ·simp
 ·have h:¬(Sum.inr a:Key)=Sum.inr b:=λq=>e (Sum.inr.inj q)
  rw[zk h,zk e]
def Oc(a:Int)(b:Str):decide ((Sum.inl a:Key)=Sum.inr b)=false:=zk λq=>nomatch q
def Od(a:Str)(b:Int):decide ((Sum.inr a:Key)=Sum.inl b)=false:=zk λq=>nomatch q
def cO(prog:Program)(w:World):PySem.KeyKind prog w Key where
 is:=mW
 hash:=N5 w
 inj:=λv a b ha hb=>by
  rcases jw ha with⟨i,t,rfl,rfl⟩ | ⟨x,t,rfl,rfl⟩
  ·rcases jw hb with⟨j,u,rfl,e⟩ | ⟨y,u,rfl,e⟩
   ·injection e with e1 _;rw[e1]
   ·exact nomatch e
  ·rcases jw hb with⟨j,u,rfl,e⟩ | ⟨y,u,rfl,e⟩
   ·exact nomatch e
   ·injection e with e1 _;rw[e1]
 byValue:=λk v h=>by
  rcases jw h with⟨i,t,rfl,rfl⟩ | ⟨x,t,rfl,rfl⟩<;>rfl
 pyHash:=λhv h=>by
  rcases jw hv with⟨i,t,rfl,rfl⟩ | ⟨x,t,rfl,rfl⟩
  ·exact wpAny_pyHash_int h
  ·exact wpAny_pyHash_str h
 eqBool:=λhu hv h=>by
  rcases jw hu with⟨i,t,rfl,rfl⟩ | ⟨x,t,rfl,rfl⟩
  ·rcases jw hv with⟨j,u,rfl,rfl⟩ | ⟨y,u,rfl,rfl⟩
   ·rw[N8] at h;exact wpAny_eqBool_int h
   ·rw[Oc] at h;exact SeqAt.EqAt.int_str i t y u _ _ _ _ h
  ·rcases jw hv with⟨j,u,rfl,rfl⟩ | ⟨y,u,rfl,rfl⟩
   ·rw[Od] at h;exact SeqAt.EqAt.str_int x t j u _ _ _ _ h
   ·rw[Oa] at h;exact wpAny_eqBool_str h
 «strs»:=λk x t v h=>by
  rcases jw h with⟨i,u,rfl,e⟩ | ⟨y,u,rfl,e⟩
  ·exact nomatch e
  ·injection e with e1 _
   subst e1
   cases v<;>rfl
def Oe(prog:Program)(w:World)(i:Int)(t:Tok):(cO prog w).is (.inl i) (.int i t)=true:=N6 i t
def Og(prog:Program)(w:World)(x:Str)(t:Tok):(cO prog w).is (.inr x) (.str x t)=true:=N7 x t
inductive V where
 | non | bl (b:Bool) | int (i:Int) | str (x:Str) | byt (b:Array UInt8) | flt (b:UInt64) | ref (a:Addr) | ty (n:String)
 deriving DecidableEq
def RelV:V->Value->Prop
 | .non,u=>u=Value.none
 | .bl b,u=>u=Value.bool b
 | .int i,u=>∃t,u=Value.int i t
 | .str x,u=>∃t,u=Value.str x t
 | .byt b,u=>∃t,u=Value.bytes b t
 | .flt b,u=>∃t,u=Value.float b t
 | .ref a,u=>u=Value.ref a
 | .ty n,u=>u=Value.type n
abbrev aF:List V->List Value->Prop:=Paired RelV
def aF.length   (r:aF xs us):xs.length=us.length:=Paired.length r
theorem aF.get:∀{xs:List V}{us:List Value}{i:Nat}{x:V},aF xs us->xs[i]?=some x->∃u,us[i]?=some u/\RelV x u
 | _,_,_,_,.nil,e=>by simp at e
 | _,_,0,_,.cons r _,e=>by simp at e;subst e;exact⟨_,rfl,r⟩
 | _,_,i+1,x,.cons _ t,e=>by
  obtain⟨u,h1,h2⟩:=aF.get (i:=i) (x:=x) t (by simpa using e);exact⟨u,by simpa using h1,h2⟩
theorem aF.set   (r:RelV x u):∀{xs:List V}{us:List Value} (i:Nat),aF xs us->aF (xs.set i x) (us.set i u)
 | _,_,_,.nil=>.nil
 | _,_,0,.cons _ t=>.cons r t
 | _,_,i+1,.cons q t=>.cons q (aF.set r i t)
theorem aF.append:∀{xs ys:List V}{us b:List Value},aF xs us->aF ys b->aF (xs++ys) (us++b)
 | _,_,_,_,.nil,s=>s
 | _,_,_,_,.cons r t,s=>.cons r (aF.append t s)
theorem aF.take:∀{xs:List V}{us:List Value} (n:Nat),aF xs us->aF (xs.take n) (us.take n)
 | _,_,0,_=>.nil
 | _,_,_+1,.nil=>.nil
 | _,_,n+1,.cons r t=>.cons r (aF.take n t)
theorem aF.drop:∀{xs:List V}{us:List Value} (n:Nat),aF xs us->aF (xs.drop n) (us.drop n)
 | _,_,0,r=>r
 | _,_,_+1,.nil=>.nil
 | _,_,n+1,.cons _ t=>aF.drop n t
def dH:Option V->Option Value->Prop
 |some v,some u=>RelV v u
 |none,none=>True
 | _,_=>False
def KV :List (κ×V)->List (κ×Value)->Prop:=Paired λ(p:κ×V) (q:κ×Value)=>p.1=q.1/\RelV p.2 q.2
def kV:Key->V
 | .inl i=>.int i
 | .inr x=>.str x
section
variable {prog:Program}{w:World}{K:Type}[DecidableEq K](knd:KeyKind prog w K)(ik:Int->K)
def eG(h:Heap)(k:Int×List K)(a:Addr):Prop:=∃o items n u c,h.get? a=some o/\o.cls=.type "tuple"/\o.data=.seq items n/\items.toList=[u,.ref c]/\knd.is (ik k.1) u=true/\IsTupleKey knd h k.2 c
variable {knd ik}
def eG.typeIs{s:Shared}{k:Int×List K}{a:Addr}(x:eG knd ik s.heap k a):s.TypeIs (.ref a) "tuple":=let ⟨o,_,_,_,_,ho,hc,_⟩:=x;⟨o,ho,hc⟩
def eG.inj(F:∀i j,ik i=ik j->i=j){h:Heap}{a:Addr}{x y:Int×List K}(hx:eG knd ik h x a)(L:eG knd ik h y a):x=y:=by
 obtain⟨o,items,n,u,c,P,_,hd,R,O,Q⟩:=hx;obtain⟨J,m,W,U,X,C,_,f,d,q,E⟩:=L;obtain rfl:o=J:=zC (P.symm.trans C);rw[hd] at f
 injection f with h1 _
 subst h1;rw[R] at d
 injection d with T b
 injection b with b _
 injection b with b
 subst T b;have I:=F _ _ (knd.inj _ _ _ O q);have G:=Q.inj E;exact Prod.ext I G
def eG.keeps{h h':Heap}{k:Int×List K}{a d:Addr}{o:Obj}{es ep}(x:eG knd ik h k a)(q:h.get? d=some o)(hd:o.data=.dict es ep)(hs:Heap.SameBut d h h'):eG knd ik h' k a:=by
 obtain⟨m,items,n,u,c,f,F,b,E,y,C⟩:=x
 have j:a≠d:=by
  rintro rfl;obtain rfl:m=o:=zC (f.symm.trans q);rw[hd] at b;exact nomatch b
 exact⟨m,items,n,u,c,(hs.2 a j).trans f,F,b,E,y,C.keeps q hd hs⟩
variable {A:Around}{E:Value->Shared->Prop}{s:Shared}
def vY(knd:KeyKind prog w K)(ik:Int->K)(k:Int×List K):Int:=reduceHash (Builtin.Tuple.tupleHashOf [knd.hash (ik k.1),tupleKeyHash knd k.2])
def Oh{k:Int×List K}{a:Addr}{Q:Int->Shared->Prop}(f:A.units+1<cLine)(G:eG knd ik s.heap k a)(h:Q (vY knd ik k) {s with toks:=s.toks+(k.2.length+3)}):
  wpAny (model prog w) A (pyHash (.ref a)) Q E s:=by
 have j:=G.typeIs;have I:A.units<cLine:=Nat.lt_of_le_of_lt (Nat.le_add_right _ 1) f;obtain⟨o,items,n,u,c,J,_,hd,L,y,C⟩:=G;unfold pyHash
 first | unfold pyHashByItsType | skip
 first | refine za (wpAny_cRoomFor_or (.inr I) ?_) | skip
 refine za (wpAny_specialOf j F.slot_tuple_hash.lookup ?_);show wpAny _ _ (if(some (Value.builtin "tuple.__hash__") == some Value.none)=true then _ else _) Q E s;rw[if_neg (by rw[beq_builtin_none];exact zv)];refine za (wpAny_specialOf j F.slot_tuple_hash.lookup ?_);show wpAny _ _ (callSpecialIfBoundUnlessNone? (.ref a) "__hash__" _ >>= _) Q E s;refine za (wpAny_callSpecialIfBoundUnlessNone?_slot j F.slot_tuple_hash (wpAny_call_entry F.slot_tuple_hash j F.entry_tuple_hash ?_ (F.args_tuple_hash_1 _)));show wpAny _ _ (Builtin.Tuple.tupleItemsOf (.ref a) >>= _) _ _ s;refine za (wpAny_tupleItemsOf J hd ?_)
 refine za ?_;rw[<-Array.forIn_toList,L];refine wpAny_forIn_list _
  (λrest (b:Array Int) s'=>(rest=[u,.ref c]/\b.toList=[]/\s'=s)\/(rest=[.ref c]/\b.toList=[knd.hash (ik k.1)]/\s' = {s with toks:=s.toks+1})\/(rest=[]/\b.toList=[knd.hash (ik k.1),tupleKeyHash knd k.2]/\s' = {s with toks:=s.toks+(k.2.length+2)}))
  _ ?_ ?_ _ _ (.inl ⟨rfl,rfl,rfl⟩)
 ·rintro x rest b s' (⟨d,hb,rfl⟩ | ⟨d,hb,rfl⟩ | ⟨d,hb,rfl⟩)
  ·injection d with q m
   subst q m;refine za (knd.pyHash y ?_)
   first
    | exact zb (.inr (.inl ⟨rfl,by simp[hb],rfl⟩))
    | exact za (zb (zb (.inr (.inl ⟨rfl,by simp[hb],rfl⟩))))
  ·injection d with q m
   subst q m;refine za (wpAny_pyHash_tuple (tupleKind_room_in1 (knd:=knd) f) (s:={s with toks:=s.toks+1}) C ?_)
   first
    | exact zb (.inr (.inr ⟨rfl,by simp[hb],by simp[Nat.add_assoc,Nat.add_comm];omega⟩))
    | exact za (zb (zb (.inr (.inr ⟨rfl,by simp[hb],by simp[Nat.add_assoc,Nat.add_comm];omega⟩))))
  ·cases d
 ·rintro b s' (⟨d,hb,rfl⟩ | ⟨d,hb,rfl⟩ | ⟨d,hb,rfl⟩)
  ·cases d
  ·cases d
  ·show wpAny _ _ (retInt (Builtin.Tuple.tupleHashOf b.toList)) _ _ _;rw[hb];refine wpAny_ret_mkInt ?_;show wpAny _ _ (if(decide (-(2:Int) ^ 63<=Builtin.Tuple.tupleHashOf [knd.hash (ik k.1),tupleKeyHash knd k.2])&&decide (Builtin.Tuple.tupleHashOf [knd.hash (ik k.1),tupleKeyHash knd k.2]<2 ^ 63))=true then _ else _) Q E _;unfold vY reduceHash at h
   by_cases d:(decide (-(2:Int) ^ 63<=Builtin.Tuple.tupleHashOf [knd.hash (ik k.1),tupleKeyHash knd k.2])&&decide (Builtin.Tuple.tupleHashOf [knd.hash (ik k.1),tupleKeyHash knd k.2]<2 ^ 63))=true
   ·rw[if_pos d];rw[if_pos d] at h;exact zb (by simpa [Nat.add_assoc] using h)
   ·rw[if_neg d];rw[if_neg d] at h;exact za (zY (zb (by simpa [Nat.add_assoc] using h)))
def Oi(X:∀i j,ik i=ik j->i=j)(hu:A.units+2<cLine){x y:Int×List K}{a b:Addr}{P:Fin->Shared->Prop}(hx:eG knd ik s.heap x a)(hy:eG knd ik s.heap y b)(h:P (.done (.ret (.bool (decide (x=y))))) s):
  wpAny (model prog w) A (Builtin.«tuple.__eq__» ⟨[.ref a,.ref b],[]⟩) P E s:=by
 have hTb:=hy.typeIs;obtain⟨oa,G,na,ua,ca,W,_,Z,q,ha1,ha2⟩:=hx;obtain⟨ob,F,nb,ub,cb,U,_,Y,m,hb1,hb2⟩:=hy
 have T:(G.size == F.size)=true:=by
  have h1:G.toList.length=2:=by rw[q];rfl
  have h2:F.toList.length=2:=by rw[m];rfl
  rw[Array.length_toList] at h1 h2;rw[h1,h2];rfl
 show wpAny _ _ (isInstance (.ref b) (.type "tuple") >>= _) _ _ s;refine za (wpAny_isInstance hTb isSubtype_tuple_tuple ?_);simp only[Bool.not_true,Bool.false_eq_true,if_false];refine za (wpAny_tupleItemsOf W Z ?_);refine za (wpAny_tupleItemsOf U Y ?_);refine za ?_;rw[q,m];refine wpAny_forIn_list _
  (λrest r I=>r.1=none/\I=s/\(rest=[(ua,ub),(.ref ca,.ref cb)]\/(rest=[(.ref ca,.ref cb)]/\x.1=y.1)\/(rest=[]/\x.1=y.1/\x.2=y.2)))
  _ ?_ ?_ _ _ ⟨rfl,rfl,.inl rfl⟩
 ·rintro⟨u,v⟩ rest r I ⟨Q,rfl,(c | ⟨c,J⟩ | ⟨c,_⟩)⟩
  ·injection c with f O
   injection f with f L
   subst f O L;refine za (knd.eqBool (a:=ik x.1) (b:=ik y.1) ha1 hb1 ?_)
   by_cases d:x.1=y.1
   ·rw[zu (by rw[d])];simp only[Bool.not_true,Bool.false_eq_true,if_false];exact zb ⟨by simp,by simp,.inr (.inl ⟨by simp,d⟩)⟩
   ·rw[zk (λz=>d (X _ _ z))];simp only[Bool.not_false,if_true]
    have R:decide (x=y)=false:=zk λz=>d (by rw[z])
    rw[R] at h;exact za (zb (zb (zb h)))
  ·injection c with f O
   injection f with f L
   subst f O L;refine za (wpAny_eqBool_tuple (by omega) ha2 hb2 ?_)
   by_cases d:x.2=y.2
   ·rw[zu d];simp only[Bool.not_true,Bool.false_eq_true,if_false];exact zb ⟨by simp,by simp,.inr (.inr ⟨by simp,J,d⟩)⟩
   ·rw[zk d];simp only[Bool.not_false,if_true]
    have R:decide (x=y)=false:=zk λz=>d (by rw[z])
    rw[R] at h;exact za (zb (zb (zb h)))
  ·cases c
 ·rintro⟨r1,r2⟩ I ⟨Q,rfl,(c | ⟨c,J⟩ | ⟨c,J,e2⟩)⟩
  ·cases c
  ·cases c
  ·simp only at Q;subst Q;refine zb ?_
   have C:(G.size == F.size)=decide (x=y):=by rw[T,zu (Prod.ext J e2)]
   show P (.done (.ret (.bool (G.size == F.size)))) I;rw[C];exact h
def Oj(d:∀i j,ik i=ik j->i=j){x y:Int×List K}{a b:Addr}{Q:Bool->Shared->Prop}(C:A.units+4<cLine)(hx:eG knd ik s.heap x a)(f:eG knd ik s.heap y b)(h:Q (decide (x=y)) s):
  wpAny (model prog w) A (eqBool (.ref a) (.ref b)) Q E s:=by
 have u:A.units<cLine:=by omega
 have q:A.in1.units+2<cLine:=by
  show A.units+1+2<cLine;omega
 have m:A.units+2<cLine:=by omega
 unfold eqBool
 try with_reducible refine zP ?_
 show wpAny _ _ (if(Value.ref a == Value.ref b)=true then _ else _) Q E s
 by_cases c:(Value.ref a == Value.ref b)=true
 ·rw[if_pos c]
  have e:a=b:=by have:=eq_of_beq c;injection this
  subst e;obtain rfl:=hx.inj d f;exact za (zY (zb (by simpa using h)))
 ·rw[if_neg c]
  exact za (wpAny_richCompare_same_room (op:=.Eq) hx.typeIs f.typeIs F.slot_tuple_eq
   (wpAny_call_entry F.slot_tuple_eq hx.typeIs F.entry_tuple_eq (Oi d (by first | exact q | exact m) hx f ⟨_,rfl,(λe=>nomatch e),wpAny_truthy_bool h⟩) (F.args_tuple_eq_2 _ _)) u)
def Ol{m:Nat}{ks:List K}{a:Addr}{Q:Bool->Shared->Prop}(f:IsTupleKey knd s.heap ks a)(h:Q true s):wpAny (model prog w) A (eqIsQuiet (m+1) (.ref a)) Q E s:=by
 have j:=f.typeIs;obtain⟨o,items,n,q,_,hd,x⟩:=f;unfold eqIsQuiet;refine za (wpAny_specialOf j F.slot_tuple_eq.lookup ?_);show wpAny _ _ (isInstance (.ref a) (.type "tuple") >>= _) _ _ s;refine za (wpAny_isInstance j isSubtype_tuple_tuple ?_);simp only[Bool.not_true,Bool.false_eq_true,if_false];refine za (wpAny_seqItems q hd ?_);refine za ?_;show wpAny _ _ (forIn items _ _) _ _ s;rw[<-Array.forIn_toList];refine wpAny_forIn_list _ (λrest r b=>r.1=none/\b=s/\∀v∈rest,carriedByValue v=true) _ ?_ ?_ _ _ ⟨rfl,rfl,x.byValue⟩
 ·rintro v rest r b ⟨c,rfl,hall⟩;rw[eqIsQuiet_byValue _ (hall v ze)];refine za (zb ?_);simp only[Bool.not_true,Bool.false_eq_true,if_false];exact zb ⟨rfl,rfl,λu d=>hall u (zp _ d)⟩
 ·rintro⟨C,y⟩ b ⟨c,rfl,_⟩;simp only at c;subst c;exact zb h
def Om{k:Int×List K}{a:Addr}{Q:Bool->Shared->Prop}(q:eG knd ik s.heap k a)(h:Q true s):wpAny (model prog w) A (eqIsQuiet 8 (.ref a)) Q E s:=by
 have x:=q.typeIs;obtain⟨o,items,n,u,c,C,_,hd,G,j,m⟩:=q;unfold eqIsQuiet;refine za (wpAny_specialOf x F.slot_tuple_eq.lookup ?_);show wpAny _ _ (isInstance (.ref a) (.type "tuple") >>= _) _ _ s;refine za (wpAny_isInstance x isSubtype_tuple_tuple ?_);simp only[Bool.not_true,Bool.false_eq_true,if_false];refine za (wpAny_seqItems C hd ?_);refine za ?_;show wpAny _ _ (forIn items _ _) _ _ s;rw[<-Array.forIn_toList,G];refine wpAny_forIn_list _ (λrest r d=>r.1=none/\d=s/\∀v∈rest,v=u\/v=.ref c) _ ?_ ?_ _ _ ⟨rfl,rfl,λv y=>by simpa using y⟩
 ·rintro v rest r d ⟨f,rfl,hall⟩
  rcases hall v ze with e | e
  ·rw[e,eqIsQuiet_byValue _ (knd.byValue _ _ j)];refine za (zb ?_);simp only[Bool.not_true,Bool.false_eq_true,if_false];exact zb ⟨rfl,rfl,λu b=>hall u (zp _ b)⟩
  ·rw[e];refine za (Ol m ?_);simp only[Bool.not_true,Bool.false_eq_true,if_false];exact zb ⟨rfl,rfl,λu b=>hall u (zp _ b)⟩
 ·rintro⟨J,I⟩ d ⟨f,rfl,_⟩;simp only at f;subst f;exact zb h
end
abbrev NK:=Int×List Key
def mX(prog:Program)(w:World):HeapKind prog w NK where
 is:=eG (cO prog w) Sum.inl
 hash:=vY (cO prog w) Sum.inl
 draws:=λk=>k.2.length+3
 room:=λA=>A.units+4<cLine
 inj:=λhx hy=>hx.inj (λ_ _ e=>Sum.inl.inj e) hy
 keeps:=λx ho hd hs=>x.keeps ho hd hs
 pyHash:=λhu hk h=>Oh (by omega) hk h
 eqBool:=λhu hx hy h=>Oj (λ_ _ e=>Sum.inl.inj e) hu hx hy h
 quiet:=λhk h=>Om hk h
inductive HO where
 | lst (xs:List V)
 | tup (xs:List V)
 | dK (kvs:List (Key×V)) | dT (kvs:List (List Key×V))
 | dN (K:List (Addr×Obj)) (kvs:List (NK×V))
 | set (S:Int->Bool) (n:Nat)
 | ins (C dx:Addr) (fs:List (Str×V))
 | own (x:Addr)
 | xd (fs:List (Str×V))
 | met (f x:Addr)
 | rng (lo hi:Int)
 | frz (o:Obj) (u:HO)
 | tbl (ps:Array Value)
 | ext (φ:Heap->Prop)
abbrev Hp:=Addr->Option HO
noncomputable def upd(H:Hp)(a:Addr)(o:HO):Hp:=λb=>if b=a then some o else H b
def bz   :upd H a o a=some o:=by unfold upd;rw[if_pos rfl]
def aH    (h:b≠a):upd H a o b=H b:=by unfold upd;rw[if_neg h]
def ne_of{H:Hp}   (h:H a=some o)(h':H b=some u)(d:o≠u):a≠b:=by
 intro e;subst e;rw[h] at h';exact d (zC h')
def bV{H:Hp}   (h:H a=some o)(h':H b=none):a≠b:=by
 intro e;subst e;rw[h] at h';cases h'
def NAt(K:List (Addr×Obj))(H:Hp)(k:NK)(b:Addr):Prop:=∃c,H b=some (.tup [.int k.1,.ref c]) /\
 (H c=some (.tup (k.2.map kV))\/∃(o:Obj) (d:Array Value) (n:Nat),K.lookup c=some o/\o.cls=.type "tuple"/\o.data=.seq d n/\d.size<=sizeLine/\aF (k.2.map kV) d.toList)
def NAt.mono{K:List (Addr×Obj)}    (x:NAt K H k b)(d:∀b xs,H b=some (.tup xs)->f b=some (.tup xs)):NAt K f k b:=by
 obtain⟨c,h1,h2⟩:=x;exact⟨c,d _ _ h1,h2.imp (d _ _) id⟩
section
variable (P:Program)(w:World)
def cg(H:Hp)(h:Heap)(a:Addr):HO->Prop
 | .lst b=>b.length<=sizeLine/\∃(c:List Value) (n:Nat),aF b c/\h.get? a=some {cls:=.type "list",data:=.seq c.toArray n}
 | .tup b=>b.length<=sizeLine/\∃c:List Value,aF b c/\IsTup h a c.toArray
 | .dK kvs=>kvs.length<=sizeLine/\(a == sysModules)=false/\∃y,KV kvs y/\h.DictOf (cO P w) a y
 | .dT kvs=>kvs.length<=sizeLine/\(a == sysModules)=false/\∃b:List (List Key×Addr×Value),
   Paired (λ(p:List Key×V) (q:List Key×Addr×Value)=>p.1=q.1/\H q.2.1=some (.tup (p.1.map kV))/\RelV p.2 q.2.2) kvs b /\
   ∃o j m,h.get? a=some o/\o.ExactDict/\o.data=.dict j m/\j.toList=b.map (entryOfKey (tupleKind (cO P w)))/\(b.map (·.1)).Nodup
 | .dN K kvs=>kvs.length<=sizeLine/\(a == sysModules)=false/\∃b:List (NK×Addr×Value),
   Paired (λ(p:NK×V) (q:NK×Addr×Value)=>p.1=q.1/\NAt K H p.1 q.2.1/\RelV p.2 q.2.2) kvs b /\
   ∃o j m,h.get? a=some o/\o.ExactDict/\o.data=.dict j m/\j.toList=b.map (entryOfKey (mX P w))/\(b.map (·.1)).Nodup
 | .set S n=>h.SetOf (intKind P w) a S n
 | .ins C dx fs=>H dx=some (.own a)/\fs.length<=1000/\dx≠a/\h.get? a=some (PySem.W.instObj C dx) /\
   ∃d,h.Ns1 dx d/\(∀f,dH (fs.lookup f) (d f))/\PySem.Within d (fs.map (·.1))
 | .own _=>∃o,h.get? a=some o
 | .xd fs=>∃d,h.Ns1 a d/\∀f,dH (fs.lookup f) (d f)
 | .rng lo hi=>∃t u v,h.get? a=some {cls:=.type "range",data:=.fields #[.int lo t,.int hi u,.int 1 v]}
 | .frz o u=>h.get? a=some o/\cg H h a u
 | .tbl ps=>h.get? a=some {cls:=.none,data:=.fields ps}
 | .met f x=>h.get? a=some (PySem.W.methodObj (.ref f) (.ref x))
 | .ext φ=>φ h/\(∃o,h.get? a=some o)/\∀h1 h2:Heap,φ h1->(∀o,h1.get? a=some o->h2.get? a=some o)->φ h2
def HOk(H:Hp)(h:Heap):Prop:=∀a o,H a=some o->cg P w H h a o
end
def cg.lt(x:cg P w H h a o):a<h.objs.size:=by
 cases o with
 |lst c=>obtain⟨_,_,_,_,e⟩:=x;exact zj e
 |tup c=>obtain⟨_,_,_,p⟩:=x;exact p.lt
 |dK b=>obtain⟨_,_,_,_,o,_,_,e,_⟩:=x;exact zj e
 |dT b=>obtain⟨_,_,_,_,o,_,_,e,_⟩:=x;exact zj e
 |dN K b=>obtain⟨_,_,_,_,o,_,_,e,_⟩:=x;exact zj e
 |set S n=>obtain⟨o,_,_,_,e,_⟩:=x;exact zj e
 |ins C q fs=>obtain⟨_,_,_,e,_⟩:=x;exact zj e
 |own y=>obtain⟨_,e⟩:=x;exact zj e
 |xd fs=>obtain⟨_,⟨_,_,_,e,_⟩,_⟩:=x;exact zj e
 |rng j m=>obtain⟨_,_,_,e⟩:=x;exact zj e
 |frz ob u=>obtain⟨e,_⟩:=x;exact zj e
 |tbl d=>exact zj (show h.get? a=some _ from x)
 |met f y=>exact zj (show h.get? a=some _ from x)
 |ext φ=>obtain⟨_,⟨_,e⟩,_⟩:=x;exact zj e
theorem Paired.mapP  :∀{d:List α}{c:List β},Paired F d c->(∀a b,F a b->G a b)->Paired G d c
 | _,_,.nil,_=>.nil
 | _,_,.cons r t,f=>.cons (f _ _ r) (Paired.mapP t f)
def cg.stay(x:cg P w H h a o)(k:∀b u,(b=a\/H b=some (.own a))->h.get? b=some u->h'.get? b=some u)
  (Q:∀b,H b=some (.own a)->H' b=some (.own a)) (J:∀b xs,H b=some (.tup xs)->H' b=some (.tup xs)):cg P w H' h' a o:=by
 induction o with
 |lst xs=>obtain⟨z,E,n,r,e⟩:=x;exact⟨z,E,n,r,k _ _ (.inl rfl) e⟩
 |tup xs=>obtain⟨z,E,r,ob,e,c⟩:=x;exact⟨z,E,r,ob,k _ _ (.inl rfl) e,c⟩
 |dK F=>obtain⟨z,y,L,r,ob,j,m,e,c⟩:=x;exact⟨z,y,L,r,ob,j,m,k _ _ (.inl rfl) e,c⟩
 |dT F =>
  obtain⟨z,y,xs,r,ob,j,m,e,c⟩:=x;exact⟨z,y,xs,Paired.mapP r λp q z=>⟨z.1,J _ _ z.2.1,z.2.2⟩,ob,j,m,k _ _ (.inl rfl) e,c⟩
 |dN K F =>
  obtain⟨z,y,xs,r,ob,j,m,e,c⟩:=x;exact⟨z,y,xs,Paired.mapP r λp q z=>⟨z.1,z.2.1.mono J,z.2.2⟩,ob,j,m,k _ _ (.inl rfl) e,c⟩
 |set S n=>obtain⟨ob,j,m,t,e,c⟩:=x;exact⟨ob,j,m,t,k _ _ (.inl rfl) e,c⟩
 |ins C dx fs =>
  obtain⟨d,z,ne,e,I,⟨G,j,m,R,c⟩,r⟩:=x;exact⟨Q _ d,z,ne,k _ _ (.inl rfl) e,I,⟨G,j,m,k _ _ (.inr d) R,c⟩,r⟩
 |own y=>obtain⟨ob,e⟩:=x;exact⟨ob,k _ _ (.inl rfl) e⟩
 |xd fs=>obtain⟨I,⟨G,j,m,e,c⟩,r⟩:=x;exact⟨I,⟨G,j,m,k _ _ (.inl rfl) e,c⟩,r⟩
 |rng T U=>obtain⟨t,u,v,e⟩:=x;exact⟨t,u,v,k _ _ (.inl rfl) e⟩
 |frz ob u O=>obtain⟨e,q⟩:=x;exact⟨k _ _ (.inl rfl) e,O q⟩
 |tbl ps =>
  have e:h.get? a=some {cls:=.none,data:=.fields ps}:=x;show h'.get? a=some {cls:=.none,data:=.fields ps};exact k a _ (.inl rfl) e
 |met f y =>
  have e:h.get? a=some (PySem.W.methodObj (.ref f) (.ref y)):=x;show h'.get? a=some (PySem.W.methodObj (.ref f) (.ref y));exact k a _ (.inl rfl) e
 |ext φ=>obtain⟨p,⟨o,e⟩,st⟩:=x;exact⟨st _ _ p λo q=>k _ _ (.inl rfl) q,⟨o,k _ _ (.inl rfl) e⟩,st⟩
def HOk.lt(x:HOk P w H h)(e:H a=some o):a<h.objs.size:=(x a o e).lt
def HOk.fresh{a:Addr}(x:HOk P w H h)(e:h.objs.size<=a):H a=none:=by
 cases q:H a with
 |none=>rfl
 |some u=>exact absurd (zI (x.lt q) e) (zU _)
def HOk.kept(x:HOk P w H h)(k:∀b u,h.get? b=some u->h'.get? b=some u):HOk P w H h':=λa o e =>
 (x a o e).stay (λb u _ q=>k b u q) (λ_ q=>q) λ_ _ q=>q
def HOk.laid{a:Addr}(x:HOk P w H h)(k:∀b u,h.get? b=some u->h'.get? b=some u)(m:h.objs.size<=a)(d:cg P w (upd H a o) h' a o):HOk P w (upd H a o) h':=λb u e=>by
 have f:=x.fresh m
 by_cases j:b=a
 ·subst j;rw[bz] at e;cases e;exact d
 ·rw[aH j] at e
  exact(x b u e).stay (λc v _ q=>k c v q) (λc q=>by rw[aH (bV q f)];exact q) λc y q=>by rw[aH (bV q f)];exact q
def Rd(H:Hp)(a:Addr)(u:HO):Prop:=H a=some u\/∃o,H a=some (.frz o u)
def Rd.ok       (r:Rd H a u)(x:HOk P w H h):cg P w H h a u:=by
 rcases r with r | ⟨o,r⟩
 ·exact x a u r
 ·obtain⟨_,q⟩:=x a _ r;exact q
def Mut:Option HO->Prop
 |some (.lst _)=>True
 |some (.dK _)=>True
 |some (.dT _)=>True
 |some (.dN _ _)=>True
 |some (.set _ _)=>True
 |some (.ins _ _ _)=>True
 |some (.ext _)=>True
 | _=>False
def HOk.write(ok:HOk P w H h)(m:Mut (H x))(G:e=x\/H e=some (.own x))(k:∀b u,b≠e->h.get? b=some u->h'.get? b=some u)(F:∃u,h'.get? e=some u)
  (E:cg P w (upd H x J) h' x J):HOk P w (upd H x J) h':=λb u q=>by
 have f:∀c y,H c=some (.own y)->c≠x:=λc y r z=>by subst z;rw[r] at m;exact m
 have j:∀c xs,H c=some (.tup xs)->c≠x:=λc xs r z=>by subst z;rw[r] at m;exact m
 by_cases hb:b=x
 ·subst hb;rw[bz] at q;cases q;exact E
 ·rw[aH hb] at q
  by_cases d:b=e
  ·have q':H b=some (.own x):=by
    rcases G with z | z
    ·exact absurd (d.trans z) hb
    ·rw[d];exact z
   rw[q] at q';cases q';obtain⟨v,I⟩:=F;exact⟨v,by rw[d];exact I⟩
  ·refine(ok b u q).stay (λc v C r=>k c v ?_ r) (λc r=>by rw[aH (f c b r)];exact r) λc xs r=>by rw[aH (j c xs r)];exact r
   rcases C with rfl | C
   ·exact d
   ·rintro rfl
    rcases G with z | z
    ·exact f c b C z
    ·rw[C] at z;cases z;exact hb rfl
structure Un(fs ex:List Addr)(H H':Hp)(h h':Heap):Prop where
 keep:∀b o,h.get? b=some o->H b=none->b∉fs->b∉ex->h'.get? b=some o
 slot:∀b o,h.get? b=some o->H b=none->b∈fs->b∉ex->∃sl,h'.get? b=some {o with slots:=sl}
 free:∀b o,h.get? b=some o->H b=none->b∉ex->H' b=none
 there:∀b o,h.get? b=some o->b∉ex->∃o',h'.get? b=some o'
 tups:∀b xs,H b=some (.tup xs)->H' b=some (.tup xs)
 frzs:∀b o u,H b=some (.frz o u)->H' b=some (.frz o u)
 tbls:∀b ps,H b=some (.tbl ps)->∃more,H' b=some (.tbl (ps++more))
def Un.any(u:Un fs ex H d h h1)   (q:h.get? b=some ob)(n:H b=none)(hx:b∉ex):∃sl,h1.get? b=some {ob with slots:=sl}:=by
 by_cases c:b∈fs
 ·exact u.slot b ob q n c hx
 ·exact⟨ob.slots,u.keep b ob q n c hx⟩
def Un.kept(k:∀b u,h.get? b=some u->h'.get? b=some u):Un fs ex H H h h' :=
 ⟨λb ob q _ _ _=>k b ob q,λb ob q _ _ _=>⟨ob.slots,k b ob q⟩,λ_ _ _ n _=>n,λb ob q _=>⟨ob,k b ob q⟩,λ_ _ q=>q,λ_ _ _ q=>q,λ_ c q=>⟨#[],by rw[q];simp⟩⟩
def Un.refl:Un fs ex H H h h:=Un.kept λ_ _ q=>q
def Un.laid{h:Heap}{a:Addr}(k:∀b u,h.get? b=some u->h'.get? b=some u)(hp:h.objs.size<=a)(hn:H a=none):Un fs ex H (upd H a o) h h' where
 keep:=λb u q _ _ _=>k b u q
 slot:=λb u q _ _ _=>⟨u.slots,k b u q⟩
 free:=λb u q n _=>by rw[aH (zq (zI (zj q) hp))];exact n
 there:=λb u q _=>⟨u,k b u q⟩
 tups:=λb xs q=>by rw[aH (bV q hn)];exact q
 frzs:=λb u xs q=>by rw[aH (bV q hn)];exact q
 tbls:=λb ps q=>⟨#[],by rw[aH (bV q hn),q];simp⟩
def Un.write(d:Mut (H x))(C:e=x\/H e=some (.own x))(k:∀b u,b≠e->h.get? b=some u->h'.get? b=some u)(j:∃u,h'.get? e=some u):Un fs ex H (upd H x o) h h':=by
 have hx:∀b,H b=none->b≠x:=λb n z=>by subst z;rw[n] at d;exact d
 have m:∀b,H b=none->b≠e:=λb n z=>by
  subst z
  rcases C with r | r
  ·exact hx b n r
  ·rw[n] at r;cases r
 have f:∀b u,H b=some u->¬Mut (some u)->b≠x:=λb u q nm z=>by subst z;rw[q] at d;exact nm d
 refine⟨λb u q n _ _=>k b u (m b n) q,λb u q n _ _=>⟨u.slots,k b u (m b n) q⟩,λb u q n _=>by rw[aH (hx b n)];exact n,λb u q _=>?_,
  λb y q=>by rw[aH (f b _ q λz=>z)];exact q,λb u y q=>by rw[aH (f b _ q λz=>z)];exact q,λb E q=>⟨#[],by rw[aH (f b _ q λz=>z),q];simp⟩⟩
 by_cases c:b=e
 ·subst c;exact j
 ·exact⟨u,k b u c q⟩
noncomputable def trk(h:Heap)(H:Hp):List Addr:=(List.range h.objs.size).filter λa=>(H a).isSome
def jx(h:Heap)(H:Hp):Heap:=PySem.W.hideAll h (trk h H)
def Oo(h:Heap)(H:Hp):(jx h H).objs.size=h.objs.size:=PySem.W.hideAll_size _ _
def Oq     (e:h.get? b=some o)(n:H b=none):(jx h H).get? b=some o :=
 PySem.W.hideAll_get _ e λc=>by
  have q :=(List.mem_filter.mp c).2;rw[n] at q;simp at q
def Ot     (e:(jx h H).get? b=some o):h.get? b=some o/\H b=none:=by
 have e' :=PySem.W.of_hideAll _ e;refine⟨e',?_⟩
 cases q:H b with
 |none=>rfl
 |some x =>
  have c:b∈trk h H:=List.mem_filter.mpr ⟨List.mem_range.mpr (zj e'),by simp[q]⟩;have z:(jx h H).get? b=none:=PySem.W.hideAll_none _ c;rw[z] at e;cases e
noncomputable def Ou(g h:Heap)(L:Addr):List (Addr×Obj):=(List.range h.objs.size).filterMap λa=>if a=L\/(g.get? a).isSome=true then none else(h.get? a).map λo=>(a,o)
def rest(g h:Heap)(L d:Addr):List (Addr×Obj):=(Ou g h L).filter λp=>decide (p.1≠d)
structure Mod(K:PySem.W.Frag)(mg:Str->Option Value)(base:Heap):Prop where
 kin:K.In base
 glob:base.Ns mainGlobals mg
 blt:∃mb,base.Ns builtinsNs mb/\∀x:Str,x≠"__name__"->mb x=bootBuiltins x
 nolimit:base.NoLimit
structure Cx where
 prog:Program
 w:World
 K:PySem.W.Frag
 mg:Str->Option Value
 base:Heap
 A:Around
 N:List Str
 s₀:Shared
 H₀:Hp
 env:Env
 outer:List Env
 stack:List Env
 ex:List Addr
 fn:Str->Bool
 calm:Bool
 pn:List (Addr×Obj)
 xe:Value->Shared->Prop
def frs(l:List Env):List Addr:=l.filterMap (·.frame)
abbrev Cx.fs(X:Cx):List Addr:=frs X.outer
def Vis(b:Scope)(x:Str):Prop:=b.names.lookup x=some .local\/b.names.lookup x=some .cell\/b.names.lookup x=some .free
def Loc(b:Scope)(x:Str):Prop:=b.names.lookup x=some .local\/b.names.lookup x=some .cell
def Look(env:Env)(h:Heap)(m:Str->Option Value)(x:Str)(u:Value):Prop :=
 (env.kindOf x=some .local/\m x=some u)\/((env.kindOf x=some .cell\/env.kindOf x=some .free)/\∃c,env.cells.lookup x=some c/\h.IsCell c (some u))
structure Cx.Ok(X:Cx):Prop where
 mod:Mod X.K X.mg X.base
 kind:X.env.scope.kind=.function
 glob:X.env.globals=mainGlobals
 blt:X.env.builtins=builtinsNs
 above:X.s₀.heap.objs.size<=X.env.locals
 inj:∀x y c,X.env.cells.lookup x=some c->X.env.cells.lookup y=some c->x=y
 has:∀x,(X.env.kindOf x=some .cell\/X.env.kindOf x=some .free)->∃c,X.env.cells.lookup x=some c
 cab:∀x c,X.fn x=true->X.env.cells.lookup x=some c->X.s₀.heap.objs.size<=c
 hd:X.calm=true->X.A.handled=none
 frames:X.A.frames=some X.stack
 stk:X.stack=X.outer\/(X.stack=X.env::X.outer/\X.env.frame=some X.env.locals)
 exf:∀b∈X.ex,b≠X.env.locals/\∀x c,X.env.cells.lookup x=some c->c≠b
 bs:∀b o,X.base.get? b=some o->X.s₀.heap.get? b=some o/\X.H₀ b=none
 bsz:X.base.objs.size<=X.s₀.heap.objs.size
 noex:∀b o,X.base.get? b=some o->b∉X.ex
 exfs:∀b∈X.ex,b∉X.fs
 funs:X.s₀.heap.FunFrames X.base X.outer
 frf:∀b∈X.fs,X.H₀ b=none
structure Inv(X:Cx)(pins:List (Addr×Obj))(σ:List (Option V))(H:Hp)(s:Shared):Prop where
 ok:X.Ok
 os:s.os=X.s₀.os
 bare:AllBare s.gens
 base:Un X.fs X.ex X.H₀ H X.s₀.heap s.heap
 loc:∃m,s.heap.Ns X.env.locals m/\∀(i:Nat) (x:Str) (v:V),X.N[i]?=some x->σ[i]?=some (some v)->Vis X.env.scope x->∃u,RelV v u/\Look X.env s.heap m x u
 cell:∀x c,X.env.cells.lookup x=some c->∃v,s.heap.IsCell c v
 free:H X.env.locals=none
 freeC:∀x c,X.env.cells.lookup x=some c->H c=none
 pin:∀p∈X.pn++pins,s.heap.get? p.1=some p.2/\H p.1=none/\p.1≠X.env.locals/\p.1∉X.fs/\∀v,p.2.data≠.cell v
 hok:HOk X.prog X.w H s.heap
 len:σ.length=X.N.length
def Cx.Ok.nofr{X:Cx}(ok:X.Ok)   (e:X.base.get? b=some o):b∉X.fs:=λc=>by
 have:=(ok.funs.mem c).1
 rw[e] at this;cases this
def Inv.bs(I:Inv X c σ H s):∀b o,X.base.get? b=some o->s.heap.get? b=some o/\H b=none:=λb o e =>
 ⟨I.base.keep b o (I.ok.bs b o e).1 (I.ok.bs b o e).2 (I.ok.nofr e) (I.ok.noex b o e),I.base.free b o (I.ok.bs b o e).1 (I.ok.bs b o e).2 (I.ok.noex b o e)⟩
def Inv.bk(I:Inv X c σ H s):∀b o,X.base.get? b=some o->s.heap.get? b=some o:=λb o e=>(I.bs b o e).1
def Inv.mod(I:Inv X b σ H s):Mod X.K X.mg X.base:=I.ok.mod
def Inv.kIn(I:Inv X b σ H s):X.K.In s.heap:=I.ok.mod.kin.keeps I.bk
def Inv.lt(I:Inv X b σ H s):X.env.locals<s.heap.objs.size:=let ⟨_,hn,_⟩:=I.loc;hn.lt
def Inv.sz(I:Inv X b σ H s):X.s₀.heap.objs.size<=s.heap.objs.size:=zG I.ok.above (Nat.le_of_lt I.lt)
def Inv.nofs(I:Inv X d σ H s){a:Addr}(h:s.heap.objs.size<=a):a∉X.fs:=λc=>by
 obtain⟨_,o,b,_⟩:=I.ok.funs.mem c;exact absurd (zI (zj b) (zG I.sz h)) (zU _)
def Inv.cne(I:Inv X y σ H s):∀x c,X.env.cells.lookup x=some c->c≠X.env.locals:=λx c e z=>by
 obtain⟨v,o,f,hd⟩:=I.cell x c e;obtain⟨m,⟨j,q,u,b,d,_⟩,_⟩:=I.loc;rw[z,b] at f;cases f;rw[d] at hd;cases hd
def Inv.funs(I:Inv X y σ H s):s.heap.FunFrames X.base X.outer:=by
 have all:∀(l:List Env),(∀b∈frs l,b∈X.fs)->X.s₀.heap.FunFrames X.base l->s.heap.FunFrames X.base l:=by
  intro l
  induction l with
  |nil=>intro _ _;trivial
  |cons env r ih =>
   intro hs u;obtain⟨x,⟨L,o,c,q,m,hd⟩,j⟩:=u;have f:L∈X.fs:=hs L (by unfold frs;rw[List.filterMap_cons,c];exact ze)
   obtain⟨sl,e⟩:=I.base.slot L o m (I.ok.frf L f) f λz=>I.ok.exfs L z f
   exact⟨x,⟨L,_,c,q,e,hd⟩,ih (λb d=>hs b (by unfold frs;rw[List.filterMap_cons,c];exact zp _ d)) j⟩
 exact all X.outer (λ_ d=>d) I.ok.funs
def Inv.stack(I:Inv X d σ H s):s.heap.FunFrames X.base X.stack:=by
 rcases I.ok.stk with e | ⟨e,c⟩
 ·rw[e];exact I.funs
 ·rw[e];obtain⟨m,b,_⟩:=I.loc;refine .cons (by rw[I.ok.kind];decide) c b ?_ I.funs;exact Heap.get?_none_of_le (zG I.ok.bsz I.ok.above)
def Inv.stkSub(I:Inv X f σ H s):∀b∈frs X.stack,b∈X.env.locals::X.fs:=λb c=>by
 rcases I.ok.stk with e | ⟨e,d⟩
 ·rw[e] at c;exact zp _ c
 ·rw[e] at c;unfold frs at c;rw[List.filterMap_cons,d] at c;exact c
def Inv.stkFree(I:Inv X f σ H s):∀b∈frs X.stack,H b=none:=λb c=>by
 rcases zl.mp (I.stkSub b c) with e | c
 ·rw[e];exact I.free
 ·obtain⟨_,o,d,_⟩:=I.ok.funs.mem c
  exact I.base.free b o d (I.ok.frf b c) λz=>I.ok.exfs b z c
def Inv.step    {ch:List Addr}(I:Inv X pins σ H s)
  (j:∀b∈ch,(b∈X.ex\/X.s₀.heap.objs.size<=b)/\b≠X.env.locals/\(∀x c,X.env.cells.lookup x=some c->c≠b)/\∀p∈X.pn++pins,p.1≠b)
  (keep:∀b o,b≠X.env.locals->b∉X.fs->b∉ch->s.heap.get? b=some o->H b=none->h'.get? b=some o)
  (slot:∀b o,b≠X.env.locals->b∈X.fs->b∉ch->s.heap.get? b=some o->H b=none->∃sl,h'.get? b=some {o with slots:=sl}) (free:∀b o,b∉ch->s.heap.get? b=some o->H b=none->H' b=none)
  (there:∀b o,b∉ch->s.heap.get? b=some o->∃G,h'.get? b=some G)
  (tups:∀b xs,H b=some (.tup xs)->H' b=some (.tup xs)) (frzs:∀b o u,H b=some (.frz o u)->H' b=some (.frz o u)) (tbls:∀b ps,H b=some (.tbl ps)->∃more,H' b=some (.tbl (ps++more)))
  (ns:∀m,s.heap.Ns X.env.locals m->h'.Ns X.env.locals m) (hok:HOk X.prog X.w H' h') (Y:AllBare g'):
  Inv X pins σ H' {s with heap:=h',gens:=g',drawn:=d',toks:=t'}:=by
 have L:∀b o,X.s₀.heap.get? b=some o->b≠X.env.locals:=λb o e=>zq (zI (zj e) I.ok.above)
 have C:∀b o,X.s₀.heap.get? b=some o->b∉X.ex->b∉ch:=λb o e hx E=>by
  rcases(j b E).1 with z | z
  ·exact hx z
  ·exact absurd (zI (zj e) z) (zU _)
 have cellK:∀x c,X.env.cells.lookup x=some c->∀v,s.heap.IsCell c v->h'.IsCell c v:=λx c e v ⟨o,F,hd⟩=>by
  have f:c∉ch:=λz=>(j c z).2.2.1 x c e rfl
  by_cases Q:c∈X.fs
  ·obtain⟨sl,q⟩:=slot c o (I.cne x c e) Q f F (I.freeC x c e);exact⟨_,q,hd⟩
  ·exact⟨o,keep c o (I.cne x c e) Q f F (I.freeC x c e),hd⟩
 refine⟨I.ok,I.os,Y,⟨λb o e n E hx=>?_,λb o e n E hx=>?_,λb o e n hx=>?_,λb o e hx=>?_,λb xs e=>tups b xs (I.base.tups b xs e),λb o xs e=>frzs b o xs (I.base.frzs b o xs e),λb ps e=>?_⟩,?_,λx c e=>?_,?_,λx c e=>?_,λp P=>?_,hok,I.len⟩
 ·exact keep b o (L b o e) E (C b o e hx) (I.base.keep b o e n E hx) (I.base.free b o e n hx)
 ·obtain⟨sl,y⟩:=I.base.slot b o e n E hx;obtain⟨O,J⟩:=slot b _ (L b o e) E (C b o e hx) y (I.base.free b o e n hx);exact⟨O,J⟩
 ·obtain⟨G,y⟩:=I.base.there b o e hx;exact free b G (C b o e hx) y (I.base.free b o e n hx)
 ·obtain⟨G,y⟩:=I.base.there b o e hx;exact there b G (C b o e hx) y
 ·obtain⟨T,y⟩:=I.base.tbls b ps e;obtain⟨R,J⟩:=tbls b _ y;exact⟨T++R,by rw[J,Array.append_assoc]⟩
 ·obtain⟨m,U,W⟩:=I.loc;refine⟨m,ns m U,λi x v y J Z=>?_⟩;obtain⟨u,r,l⟩:=W i x v y J Z;refine⟨u,r,?_⟩
  rcases l with l | ⟨k,c,e,z⟩
  ·exact .inl l
  ·exact .inr ⟨k,c,e,cellK x c e _ z⟩
 ·obtain⟨v,z⟩:=I.cell x c e;exact⟨v,cellK x c e v z⟩
 ·obtain⟨m,⟨o,_,_,F,_⟩,_⟩:=I.loc;exact free _ o (λz=>(j _ z).2.1 rfl) F I.free
 ·obtain⟨v,o,F,hd⟩:=I.cell x c e;exact free c o (λz=>(j c z).2.2.1 x c e rfl) F (I.freeC x c e)
 ·obtain⟨e,n,ne,nf,d⟩:=I.pin p P
  have f:p.1∉ch:=λz=>(j p.1 z).2.2.2 p P rfl
  exact⟨keep p.1 p.2 ne nf f e n,free p.1 p.2 f e n,ne,nf,d⟩
def Inv.un  (I:Inv X L σ H s)(u:Un X.fs [] H O s.heap h')(hok:HOk X.prog X.w O h'):Inv X L σ O {s with heap:=h',toks:=t'}:=by
 obtain⟨m,⟨o,G,J,q,r⟩,_⟩:=id I.loc;obtain⟨sl,C⟩:=u.any q I.free (by simp)
 exact I.step (g':=s.gens) (d':=s.drawn) (ch:=[]) (λ_ z=>nomatch z) (λb o _ d _ e n=>u.keep b o e n d (by simp)) (λb o _ d _ e n=>u.slot b o e n d (by simp)) (λb o _ e n=>u.free b o e n (by simp)) (λb o _ e=>u.there b o e (by simp)) u.tups u.frzs u.tbls (λF y=>by
  obtain⟨E,f,j,c,x⟩:=y;rw[q] at c;cases c
  exact⟨_,f,j,C,x⟩) hok I.bare
def Inv.call     (I:Inv X T σ H s)(u:Un (frs X.stack) ch H U s.heap h')(hok:HOk X.prog X.w U h')(J:AllBare g')
  (j:∀b∈ch,(b∈X.ex\/X.s₀.heap.objs.size<=b)/\b≠X.env.locals/\(∀x c,X.env.cells.lookup x=some c->c≠b)/\∀p∈X.pn++T,p.1≠b):
  Inv X T σ U {s with heap:=h',gens:=g',drawn:=d',toks:=t'}:=by
 obtain⟨m,⟨o,Q,R,E,r⟩,_⟩:=id I.loc
 obtain⟨sl,q⟩:=u.any E I.free λz=>(j _ z).2.1 rfl
 exact I.step (ch:=ch) j (λb o q L d e n=>u.keep b o e n (λz=>(zl.mp (I.stkSub b z)).elim q L) d) (λb o _ _ d e n=>u.any e n d) (λb o d e n=>u.free b o e n d) (λb o d e=>u.there b o e d) u.tups u.frzs u.tbls (λP G=>by
  obtain⟨O,y,C,f,F⟩:=G;rw[E] at f;cases f
  exact⟨_,y,C,q,F⟩) hok J
def Inv.turned   (I:Inv X O σ H s)(k:∀b o,b≠it->s.heap.get? b=some o->h'.get? b=some o)(C:H it=none)(j:it≠X.env.locals)
  (h1:it∈X.ex\/X.s₀.heap.objs.size<=it) (h2:∀x c,X.env.cells.lookup x=some c->c≠it) (h3:∀p∈X.pn++O,p.1≠it):Inv X O σ H {s with heap:=h',toks:=t'}:=by
 have f:∀b u,H b=some u->b≠it:=λb u e z=>by rw[z,C] at e;cases e
 refine I.step (g':=s.gens) (d':=s.drawn) (ch:=[it]) (λb F=>?_) (λb o _ _ d e _=>k b o (λz=>d (by simp[z])) e) (λb o _ _ d e _=>⟨o.slots,k b o (λz=>d (by simp[z])) e⟩) (λ_ _ _ _ n=>n)
  (λb o d e=>⟨o,k b o (λz=>d (by simp[z])) e⟩) (λ_ _ e=>e) (λ_ _ _ e=>e) (λb L e=>⟨#[],by rw[e];simp⟩) (λm E=>?_) (λb u e=>?_) I.bare
 ·have e:b=it:=by simpa using F
  subst e;exact⟨h1,j,h2,h3⟩
 ·obtain⟨o,G,J,y,r⟩:=E;exact⟨o,G,J,k _ o (Ne.symm j) y,r⟩
 ·refine(I.hok b u e).stay (λc v d q=>k c v ?_ q) (λ_ q=>q) λ_ _ q=>q
  rcases d with z | z
  ·rw[z];exact f b u e
  ·exact f c _ z
def Inv.tok(I:Inv X b σ H s)(t:Nat):Inv X b σ H {s with toks:=t}:=I.un Un.refl I.hok
def Inv.kept  (I:Inv X c σ H s)(k:∀b u,s.heap.get? b=some u->h'.get? b=some u):Inv X c σ H {s with heap:=h',toks:=t'}:=I.un (Un.kept k) (I.hok.kept k)
def Inv.laid{a:Addr}   (I:Inv X f σ H s)(k:∀b u,s.heap.get? b=some u->h'.get? b=some u)(c:s.heap.objs.size<=a)(d:cg X.prog X.w (upd H a o) h' a o):
  Inv X f σ (upd H a o) {s with heap:=h',toks:=t'}:=I.un (Un.laid k c (I.hok.fresh c)) (I.hok.laid k c d)
def Inv.write    (I:Inv X m σ H s)(f:Mut (H x))(j:e=x\/H e=some (.own x))(k:∀b u,b≠e->s.heap.get? b=some u->h'.get? b=some u)(c:∃u,h'.get? e=some u)
  (d:cg X.prog X.w (upd H x o) h' x o):Inv X m σ (upd H x o) {s with heap:=h',toks:=t'}:=I.un (Un.write f j k c) (I.hok.write f j k c d)
def Inv.pins_of  (I:Inv X d σ H s)(h:∀p∈c,s.heap.get? p.1=some p.2/\H p.1=none/\p.1≠X.env.locals/\p.1∉X.fs/\∀v,p.2.data≠.cell v):Inv X c σ H s :=
 ⟨I.ok,I.os,I.bare,I.base,I.loc,I.cell,I.free,I.freeC,λp b=>(zB.mp b).elim (λz=>I.pin p (jk _ z)) (h p),I.hok,I.len⟩
def CV{N:List Str}(hN:N.Nodup){i:Nat}  (a:N[i]?=some x)(b:N[j]?=some x):i=j:=by
 obtain⟨h1,d⟩:=zt.mp a;obtain⟨h2,c⟩:=zt.mp b;exact(List.getElem_inj hN).mp (d.trans c.symm)
def Ov         (I:Inv X pins σ H s)(hN:X.N.Nodup)(U:X.N[i]?=some x)(hx:Loc X.env.scope x)(r:RelV v u)
  (h:∀s',Inv X pins (σ.set i (some v)) H s'->(∃a,Heap.SameBut a s.heap s'.heap/\(a=X.env.locals\/X.env.cells.lookup x=some a))->Q () s') (hf:X.fn x=true\/X.env.scope.names.lookup x=some .local:=by first | exact .inl rfl | exact .inr rfl | assumption):wpAny M A (storeName X.env x u) Q E s:=by
 obtain⟨m,hn,hl⟩:=id I.loc
 have hcls:(X.env.scope.kind == .class || (X.env.scope.kind == .module&&X.env.locals != X.env.globals))=false:=by rw[I.ok.kind];rfl
 have L:i<σ.length:=by rw[I.len];exact(zt.mp U).1
 have cne:=I.cne
 have tracked:∀{a:Addr}{T:Heap},(∃o,s.heap.get? a=some o/\H a=none)->Heap.SameBut a s.heap T->HOk X.prog X.w H T:=λ{a T} ha hs b ob e=>by
  obtain⟨_,_,F⟩:=ha
  refine(I.hok b ob e).stay (λc w' C q=>(hs.2 c ?_).trans q) (λ_ q=>q) λ_ _ q=>q
  rintro rfl
  rcases C with rfl | C
  ·rw[F] at e;cases e
  ·rw[F] at C;cases C
 rcases hx with J | J
 ·refine wpAny_storeName_local J hn (λT hn' hs=>?_) hcls;obtain⟨oL,_,_,hoL,_⟩:=id hn;refine h _ ⟨I.ok,I.os,I.bare,⟨λb o e n P hx=>?_,λb o e n P hx=>?_,I.base.free,λb o e hx=>?_,I.base.tups,I.base.frzs,I.base.tbls⟩,⟨_,hn',λj y v' f G e3=>?_⟩,λy c e=>?_,I.free,I.freeC,λp hp=>?_,tracked ⟨oL,hoL,I.free⟩ hs,by simpa using I.len⟩ ⟨_,hs,.inl rfl⟩
  ·exact(hs.2 b (zq (zI (zj e) I.ok.above))).trans (I.base.keep b o e n P hx)
  ·obtain⟨sl,f⟩:=I.base.slot b o e n P hx;exact⟨sl,(hs.2 b (zq (zI (zj e) I.ok.above))).trans f⟩
  ·obtain⟨o',f⟩:=I.base.there b o e hx;exact⟨o',(hs.2 b (zq (zI (zj e) I.ok.above))).trans f⟩
  ·by_cases O:j=i
   ·subst O;rw[U] at f;cases f;rw[zQ L] at G;cases G;exact⟨u,r,.inl ⟨J,by simp⟩⟩
   ·rw[zh (Ne.symm O)] at G;obtain⟨u',r',q⟩:=hl j y v' f G e3;refine⟨u',r',?_⟩
    rcases q with⟨k,e⟩ | ⟨k,c,e,z⟩
    ·refine .inl ⟨k,?_⟩
     have:y≠x:=λe=>O (CV hN f (e ▸ U))
     simp[this,e]
    ·exact .inr ⟨k,c,e,z.sameBut hs (cne y c e)⟩
  ·obtain⟨w',z⟩:=I.cell y c e;exact⟨w',z.sameBut hs (cne y c e)⟩
  ·obtain⟨e,n,ne,nf,d⟩:=I.pin p hp;exact⟨(hs.2 p.1 ne).trans e,n,ne,nf,d⟩
 ·have R:X.fn x=true:=by
   rcases hf with z | z
   ·exact z
   ·rw[z] at J;cases J
  obtain⟨c,C⟩:=I.ok.has x (.inl J);obtain⟨w',z⟩:=I.cell x c C;refine wpAny_storeName_cell I.ok.kind J C z (λT Z hs=>?_);obtain⟨oc,W,hocd⟩:=id z;refine h {s with heap:=T} ⟨I.ok,I.os,I.bare,⟨λb o e n P hx=>?_,λb o e n P hx=>?_,I.base.free,λb o e hx=>?_,I.base.tups,I.base.frzs,I.base.tbls⟩,⟨m,hn.sameBut hs (Ne.symm (cne x c C)),λj y v' f G e3=>?_⟩,λy c' e=>?_,I.free,I.freeC,λp hp=>?_,tracked ⟨oc,W,I.freeC x c C⟩ hs,by simpa using I.len⟩ ⟨c,hs,.inr C⟩
  ·exact(hs.2 b (zq (zI (zj e) (I.ok.cab x c R C)))).trans (I.base.keep b o e n P hx)
  ·obtain⟨sl,f⟩:=I.base.slot b o e n P hx;exact⟨sl,(hs.2 b (zq (zI (zj e) (I.ok.cab x c R C)))).trans f⟩
  ·obtain⟨o',f⟩:=I.base.there b o e hx;exact⟨o',(hs.2 b (zq (zI (zj e) (I.ok.cab x c R C)))).trans f⟩
  ·by_cases O:j=i
   ·subst O;rw[U] at f;cases f;rw[zQ L] at G;cases G;exact⟨u,r,.inr ⟨.inl J,c,C,Z⟩⟩
   ·rw[zh (Ne.symm O)] at G;obtain⟨u',r',q⟩:=hl j y v' f G e3;refine⟨u',r',?_⟩
    rcases q with q | ⟨k,c',e,z'⟩
    ·exact .inl q
    ·refine .inr ⟨k,c',e,z'.sameBut hs ?_⟩;rintro rfl;exact O (CV hN f (I.ok.inj _ _ _ e C ▸ U))
  ·by_cases Y:c'=c
   ·subst Y;exact⟨_,Z⟩
   ·obtain⟨w2,z2⟩:=I.cell y c' e;exact⟨w2,z2.sameBut hs Y⟩
  ·obtain⟨e,n,ne,nf,d⟩:=I.pin p hp;refine⟨(hs.2 p.1 ?_).trans e,n,ne,nf,d⟩;intro q;rw[q,W] at e;have q':oc=p.2:=zC e;exact d w' (by rw[<-q'];exact hocd)
def vZ         (I:Inv X f σ H s)(hN:X.N.Nodup)(c:X.N[i]?=some x)(hx:Loc X.env.scope x)(r:RelV v u)
  (h:∀b,Inv X f (σ.set i (some v)) H b->Q () b) (d:X.fn x=true\/X.env.scope.names.lookup x=some .local:=by first | exact .inl rfl | exact .inr rfl | assumption):wpAny M A (storeName X.env x u) Q E s :=
 Ov I hN c hx r λb I' _=>h b I'
def Inv.call'   (I:Inv X y σ H s)(j:C.os=s.os)(u:Un (frs X.stack) ch H E s.heap C.heap)(hok:HOk X.prog X.w E C.heap)(m:AllBare C.gens)
  (d:∀b∈ch,(b∈X.ex\/X.s₀.heap.objs.size<=b)/\b≠X.env.locals/\(∀x c,X.env.cells.lookup x=some c->c≠b)/\∀p∈X.pn++y,p.1≠b):Inv X y σ E C:=by
 obtain⟨q,g',d',t',f⟩:=C;have e:f=s.os:=j;subst e;exact I.call (g':=g') (t':=t') (d':=d') u hok m d
abbrev XK:=Value->Option Addr->Hp->Prop
abbrev St:=List (Option V)
abbrev VK:=V->Hp->Prop
abbrev TE:=St->Hp->VK->Prop
abbrev TT:=St->Hp->(Bool->Hp->Prop)->Prop
abbrev TA:=St->Hp->(List V->Hp->Prop)->Prop
structure Ends where
 nx:St->Hp->Prop
 rt:VK
 bk:St->Hp->Prop:=λ_ _=>False
 ct:St->Hp->Prop:=λ_ _=>False
abbrev TS:=Ends->St->Hp->Prop
inductive EP (X:Cx) (pins:List (Addr×Obj)) (σ:St) (Q:VK) (u:Value) (s':Shared):Prop
 | mk:∀v H',Inv X pins σ H' s'->RelV v u->Q v H'->EP X pins σ Q u s'
def TP(X:Cx)(pins:List (Addr×Obj))(σ:St)(Q:Bool->Hp->Prop)(b:Bool)(d:Shared):Prop:=∃c,Inv X pins σ c d/\Q b c
inductive AP (X:Cx) (pins:List (Addr×Obj)) (σ:St) (Q:List V->Hp->Prop) (us:List Value) (s':Shared):Prop
 | mk:∀vs H',Inv X pins σ H' s'->aF vs us->Q vs H'->AP X pins σ Q us s'
def SP(X:Cx)(pins:List (Addr×Obj))(D:Ends)(f:Flow)(d:Shared):Prop :=
 match f with
 | .next=>∃b c,Inv X pins b c d/\D.nx b c
 | .brk=>∃b c,Inv X pins b c d/\D.bk b c
 | .cont=>∃b c,Inv X pins b c d/\D.ct b c
 | .ret u=>∃v b c,Inv X pins b c d/\RelV v u/\D.rt v c
def PE(X:Cx)(e:Expr)(t:TE):Prop :=
 ∀(pins:List (Addr×Obj)) (s:Shared) (σ:St) (H:Hp) (Q:VK),Inv X pins σ H s->t σ H Q->wpAny (model X.prog X.w) X.A (eval e X.env) (EP X pins σ Q) X.xe s
def PT(X:Cx)(e:Expr)(t:TT):Prop :=
 ∀(pins:List (Addr×Obj)) (s:Shared) (σ:St) (H:Hp) (Q:Bool->Hp->Prop),Inv X pins σ H s->t σ H Q->wpAny (model X.prog X.w) X.A (isTrue e X.env (eval e X.env)) (TP X pins σ Q) X.xe s
def PW(X:Cx)(e:Expr)(t:TT):Prop :=
 ∀(whole:Sem Value) (pins:List (Addr×Obj)) (s:Shared) (σ:St) (H:Hp) (Q:Bool->Hp->Prop),Inv X pins σ H s->t σ H Q->wpAny (model X.prog X.w) X.A (isTrue e X.env whole) (TP X pins σ Q) X.xe s
def PW.pt    (h:PW X e t):PT X e t:=h _
def PA(X:Cx)(es:List Expr)(t:TA):Prop :=
 ∀(b:Pos) (pins:List (Addr×Obj)) (s:Shared) (σ:St) (H:Hp) (Q:List V->Hp->Prop),Inv X pins σ H s->t σ H Q->wpAny (model X.prog X.w) X.A (spliced (backTo b (starEach es X.env))) (AP X pins σ Q) X.xe s
def PS(X:Cx)(st:Stmt)(t:TS):Prop :=
 ∀(pins:List (Addr×Obj)) (s:Shared) (σ:St) (H:Hp) (D:Ends),Inv X pins σ H s->t D σ H->wpAny (model X.prog X.w) X.A (exec st X.env) (SP X pins D) X.xe s
def PSs(X:Cx)(st:List Stmt)(t:TS):Prop :=
 ∀(pins:List (Addr×Obj)) (s:Shared) (σ:St) (H:Hp) (D:Ends),Inv X pins σ H s->t D σ H->wpAny (model X.prog X.w) X.A (execs st X.env) (SP X pins D) X.xe s
def thn  {t:Sem α}{Q b:α->Shared->Prop}     (h:wpAny M A t Q E s)(c:∀a s,Q a s->b a s):wpAny M A t b E s:=zT h c λ_ _ x=>x
def Ox(i:Nat):TE:=λσ H Q=>∃v,σ[i]?=some (some v)/\Q v H
def tC(v:V):TE:=λ_ H Q=>Q v H
def j6{X:Cx}   {f:Pos}(hN:X.N[i]?=some x)(hv:Vis X.env.scope x)(hd:(x == ("__debug__":Str))=false:=by decide)(j:(x == ("__classdict__":Str))=false:=by decide):PE X (.Name x f) (Ox i):=by
 intro pins s σ H Q I h;obtain⟨v,e,h⟩:=h;obtain⟨m,y,E⟩:=I.loc;obtain⟨u,r,l⟩:=E i x v hN e hv;have fin:EP X _ σ Q u s:=⟨v,H,I,r,h⟩
 rcases l with⟨d,C⟩ | ⟨d,c,q,b⟩
 ·exact wpAny_Name (wpAny_loadName_local I.ok.kind d y C fin) hd
 ·rcases d with d | d
  ·exact wpAny_Name (wpAny_loadName_cell I.ok.kind d q b fin) hd
  ·exact wpAny_Name (wpAny_loadName_free I.ok.kind d q b fin j) hd
def Oz :PE X (.Constant (.int i) j b) (tC (.int i)):=λ_ _ _ H _ I h=>wpAny_Constant_int ⟨.int i,H,I.tok _,⟨_,rfl⟩,h⟩
def OD :PE X (.Constant (.bool b) j c) (tC (.bl b)):=λ_ _ _ H _ I h=>Constant_bool ⟨.bl b,H,I,rfl,h⟩
def OJ :PE X (.Constant .none j b) (tC .non):=λ_ _ _ H _ I h=>Constant_none ⟨.non,H,I,rfl,h⟩
def CW :PE X (.Constant (.str x) j b) (tC (.str x)):=λ_ _ _ H _ I h=>Calls.Constant_str ⟨.str x,H,I.tok _,⟨_,rfl⟩,h⟩
def Gl(X:Cx)(x:Str):Prop:=X.env.kindOf x=some .globalImplicit
def pC    {σ:St}      (I:Inv X d σ H s)(c:Gl X x)(b:X.mg x=some u)(h:Q u s)
  (hd:(x == ("__debug__":Str))=false:=by decide):wpAny (model X.prog X.w) X.A (eval (.Name x pos) X.env) Q E s :=
 Calls.Name_function_global I.ok.kind c (Calls.loadGlobal_global (by rw[I.ok.glob];exact I.mod.glob.keeps I.bk) b h) hd
def j7{E:Value->Shared->Prop}   {σ:St}    {b:Pos}  (I:Inv X j σ H s)(f:Gl X x)(d:X.mg x=none)(hv:bootBuiltins x=some u)(h:Q u s)
  (c:x≠"__name__":=by decide) (hd:(x == ("__debug__":Str))=false:=by decide):wpAny (model X.prog X.w) X.A (eval (.Name x b) X.env) Q E s:=by
 obtain⟨mb,h1,h2⟩:=I.mod.blt;exact Calls.Name_function_global I.ok.kind f (Calls.loadGlobal_builtin (by rw[I.ok.glob];exact I.mod.glob.keeps I.bk) d (by rw[I.ok.blt];exact h1.keeps I.bk) ((h2 x c).trans hv) h) hd
def O7     (c:Gl X x)(b:X.mg x=some u)(r:RelV v u)(hd:(x == ("__debug__":Str))=false:=by decide):PE X (.Name x pos) (tC v):=
 λ_ _ _ H _ I h=>pC I c b ⟨v,H,I,r,h⟩ hd
def O8    {b:Pos}(f:Gl X x)(d:X.mg x=none)(hv:bootBuiltins x=some u)(r:RelV v u)(c:x≠"__name__":=by decide)(hd:(x == ("__debug__":Str))=false:=by decide):PE X (.Name x b) (tC v):=
 λ_ _ _ H _ I h=>j7 I f d hv ⟨v,H,I,r,h⟩ c hd
def PC(X:Cx)(op:CmpOp)(a b:Expr)(t:TE):Prop :=
 ∀(pins:List (Addr×Obj)) (s:Shared) (σ:St) (H:Hp) (Q:VK),Inv X pins σ H s->t σ H Q ->
  wpAny (model X.prog X.w) X.A (eval a X.env) (λv d=>wpAny (model X.prog X.w) X.A (eval b X.env) (λu c=>wpAny (model X.prog X.w) X.A (compareOp op v u) (EP X pins σ Q) X.xe c) X.xe d) X.xe s
def O9(b:Expr)  (h:op≠.In)(h2:op≠.NotIn):behindInMarks op b=false:=by
 have d:(op == CmpOp.In)=false:=by cases op<;>first | rfl | exact absurd rfl h
 have c:(op == CmpOp.NotIn)=false:=by cases op<;>first | rfl | exact absurd rfl h2
 cases b<;>simp[behindInMarks,d,c]
def CZ(b:TE):TE:=λσ H Q=>b σ H λx c=>Q (.bl (decide (x=.non))) c
def Dc(b:TE):TE:=λσ H Q=>b σ H λx c=>Q (.bl (!decide (x=.non))) c
def RelV.none_iff   (r:RelV x v):(v == Value.none)=decide (x=.non):=by
 cases x with
 |non=>cases r;rfl
 |bl _=>cases r;rfl
 |int _=>obtain⟨t,rfl⟩:=r;rfl
 |str _=>obtain⟨t,rfl⟩:=r;rfl
 |byt _=>obtain⟨t,rfl⟩:=r;rfl
 |flt _=>obtain⟨t,rfl⟩:=r;rfl
 |ref _=>cases r;rfl
 |ty _=>cases r;rfl
def Pa  (b:PE X a d):PC X .Is a (.Constant .none j c) (CZ d):=by
 intro pins s σ H Q I h
 refine thn (b _ s σ H _ I h) λv s1 ⟨x,H1,I1,r1,q1⟩=>?_
 exact Constant_none (is_none_gen ⟨.bl _,H1,I1,by rw[r1.none_iff];rfl,q1⟩)
def Pb  (b:PE X a d):PC X .IsNot a (.Constant .none j c) (Dc d):=by
 intro pins s σ H Q I h
 refine thn (b _ s σ H _ I h) λv s1 ⟨x,H1,I1,r1,q1⟩=>?_
 exact Constant_none (isnot_none_gen ⟨.bl _,H1,I1,by rw[r1.none_iff];rfl,q1⟩)
def tB(t:TE):TT:=λσ H Q=>t σ H λx b=>∃c,x=.bl c/\Q c b
def v7   (h:PC X op a b t)(h1:behindInMarks op b=false:=by first | exact O9 _ (by decide) (by decide) | rfl):PT X (.Compare a [op] [b] pos) (tB t):=by
 intro pins s σ H Q I f;refine wpAny_isTrue_Compare1 (thn (h _ s σ H _ I f) λv m h1=>thn h1 λu j h2=>thn h2 λc s3 ⟨x,H1,I1,r1,q1⟩=>?_) h1;obtain⟨d,rfl,q⟩:=q1;cases r1;exact wpAny_truthy_bool ⟨H1,I1,q⟩
def Dd(t u:TT):TT:=λσ H Q=>t σ H λc b=>if c=true then u σ b Q else Q false b
def tOr(t u:TT):TT:=λσ H Q=>t σ H λc b=>if c=true then Q true b else u σ b Q
def Pg(t:TT):TT:=λσ H Q=>t σ H λc b=>Q (!c) b
def Ph(b:PT X a tA):PW X (.BoolOp .And [a] pos) tA:=by
 intro d pins s σ H Q I h;refine isTrue_and (thn (b _ s σ H Q I h) λc f e=>?_)
 cases c with
 |true=>exact isTrue_and_nil e
 |false=>exact e
def Pj(b:PT X a tA):PW X (.BoolOp .Or [a] pos) tA:=by
 intro d pins s σ H Q I h;refine isTrue_or (thn (b _ s σ H Q I h) λc f e=>?_)
 cases c with
 |false=>exact isTrue_or_nil e
 |true=>exact e
def Pk{rest:List Expr}(f:PT X a tA)(hb:PW X (.BoolOp .And (b::rest) pos) tB'):PW X (.BoolOp .And (a::b::rest) pos) (Dd tA tB'):=by
 intro d pins s σ H Q I h;refine isTrue_and (thn (f _ s σ H _ I h) λc s1 ⟨H1,I1,q1⟩=>?_)
 cases c with
 |true=>exact hb d _ s1 σ H1 Q I1 q1
 |false=>exact⟨H1,I1,q1⟩
def Pn{rest:List Expr}(f:PT X a tA)(hb:PW X (.BoolOp .Or (b::rest) pos) tB'):PW X (.BoolOp .Or (a::b::rest) pos) (tOr tA tB'):=by
 intro d pins s σ H Q I h;refine isTrue_or (thn (f _ s σ H _ I h) λc s1 ⟨H1,I1,q1⟩=>?_)
 cases c with
 |true=>exact⟨H1,I1,q1⟩
 |false=>exact hb d _ s1 σ H1 Q I1 q1
def Pq(b:PT X a c):PT X (.UnaryOp .Not a d) (Pg c):=by
 intro pins s σ H Q I h;exact isTrue_not (b _ s σ H _ I h)
def Pu(f d:TE):TE:=λσ H Q=>f σ H λx b=>∃c,x=.bl c/\if c=true then d σ b Q else Q (.bl false) b
def Px(b:TE):TE:=λσ H Q=>b σ H λx d=>∃c,x=.bl c/\Q (.bl (!c)) d
def Py   (h:PE X a t):PE X (.BoolOp op [a] c) t:=λpins s σ H Q I b=>BoolOp_one (h _ s σ H Q I b)
def Pz{rest:List Expr}(f:PE X a ta)(hb:PE X (.BoolOp .And (b::rest) pos) tb):PE X (.BoolOp .And (a::b::rest) pos) (Pu ta tb):=by
 intro pins s σ H Q I h;refine BoolOp_and (thn (f _ s σ H _ I h) λv s1 ⟨x,H1,I1,r1,d⟩=>?_);obtain⟨c,rfl,d⟩:=d;cases r1;refine wpAny_truthy_bool ?_
 cases c with
 |true=>exact hb _ s1 σ H1 Q I1 d
 |false=>exact⟨.bl _,H1,I1,rfl,d⟩
def PB(d:PE X a f):PE X (.UnaryOp .Not a j) (Px f):=by
 intro pins s σ H Q I h;refine UnaryOp_ (thn (d _ s σ H _ I h) λv s1 ⟨x,H1,I1,r1,b⟩=>?_);obtain⟨c,rfl,b⟩:=b;cases r1;exact not_of (wpAny_truthy_bool ⟨.bl _,H1,I1,rfl,b⟩)
def tIf(t:TT)(f d:TE):TE:=λσ H Q=>t σ H λc b=>if c=true then f σ b Q else d σ b Q
def PJ  (f:PT X c tA)(j:PE X a ta)(hb:PE X b tb):PE X (.IfExp c a b pos) (tIf tA ta tb):=by
 intro pins s σ H Q I h;refine wpAny_IfExp (thn (f _ s σ H _ I h) λd s1 ⟨H1,I1,q1⟩=>?_)
 cases d with
 |true=>exact j _ s1 σ H1 Q I1 q1
 |false=>exact hb _ s1 σ H1 Q I1 q1
def SqL(K:PySem.W.Frag)(H:Hp)(a:Addr)(xs:List V):Prop :=
 Rd H a (.lst xs) \/
  ∃(o:Obj) (b:Array Value) (n:Nat),K.lookup a=some o/\o.cls=.type "list"/\o.dict=none/\o.data=.seq b n/\b.size<=sizeLine/\aF xs b.toList
def SqT(K:PySem.W.Frag)(H:Hp)(a:Addr)(xs:List V):Prop :=
 Rd H a (.tup xs) \/
  ∃(o:Obj) (b:Array Value) (n:Nat),K.lookup a=some o/\o.cls=.type "tuple"/\o.data=.seq b n/\b.size<=sizeLine/\aF xs b.toList
def PK:Value->Option V
 | .none=>some .non
 | .bool b=>some (.bl b)
 | .int i _=>some (.int i)
 | .str x _=>some (.str x)
 | .bytes b _=>some (.byt b)
 | .float b _=>some (.flt b)
 | .ref a=>some (.ref a)
 | .type n=>some (.ty n)
 | _=>none
def RelV.abs   (r:RelV x u):PK u=some x:=by
 cases x with
 |non=>cases r;rfl
 |bl _=>cases r;rfl
 |int _=>obtain⟨t,rfl⟩:=r;rfl
 |str _=>obtain⟨t,rfl⟩:=r;rfl
 |byt _=>obtain⟨t,rfl⟩:=r;rfl
 |flt _=>obtain⟨t,rfl⟩:=r;rfl
 |ref _=>cases r;rfl
 |ty _=>cases r;rfl
def RelV.inj{x y:V}{u:Value}(r:RelV x u)(q:RelV y u):x=y:=zC (r.abs.symm.trans q.abs)
theorem aF.inj:∀{xs ys:List V}{us:List Value},aF xs us->aF ys us->xs=ys
 | _,_,_,.nil,.nil=>rfl
 | _,_,_,.cons r t,.cons r' t'=>by rw[r.inj r',aF.inj t t']
def Inv.list{σ:St}(I:Inv X j σ H s)(h:SqL X.K H a xs):∃b:List Value,aF xs b/\PlainL s.heap a b.toArray/\xs.length<=sizeLine:=by
 rcases h with h | ⟨o,b,n,c,d,hd,hs,f,r⟩
 ·obtain⟨z,b,n,r,e⟩:=h.ok I.hok;exact⟨b,r,⟨_,n,e,rfl,rfl,rfl⟩,z⟩
 ·refine⟨b.toList,r,⟨o,n,I.kIn a o c,d,hd,by simpa using hs⟩,?_⟩;have e:=r.length;simp only[Array.length_toList] at e;omega
def Inv.tuple{σ:St}(I:Inv X j σ H s)(h:SqT X.K H a xs):∃b:List Value,aF xs b/\IsTup s.heap a b.toArray/\xs.length<=sizeLine:=by
 rcases h with h | ⟨o,b,n,c,d,hs,f,r⟩
 ·obtain⟨z,b,r,p⟩:=h.ok I.hok;exact⟨b,r,p,z⟩
 ·refine⟨b.toList,r,⟨o,I.kIn a o c,d,n,by simpa using hs⟩,?_⟩;have e:=r.length;simp only[Array.length_toList] at e;omega
def Inv.list_inj{σ:St}(I:Inv X y σ H s)(h:SqL X.K H a xs)(h':SqL X.K H a ys):xs=ys:=by
 obtain⟨c,r,⟨o,n,e,_,_,d⟩,_⟩:=I.list h;obtain⟨b,m,⟨u,x,f,_,_,j⟩,_⟩:=I.list h';rw[e] at f;cases f;rw[d] at j
 injection j with q _
 have:c=b:=by simpa using congrArg Array.toList q
 subst this;exact r.inj m
def Inv.tuple_inj{σ:St}(I:Inv X y σ H s)(h:SqT X.K H a xs)(h':SqT X.K H a ys):xs=ys:=by
 obtain⟨c,r,⟨o,e,_,n,d⟩,_⟩:=I.tuple h;obtain⟨b,m,⟨u,f,_,x,j⟩,_⟩:=I.tuple h';rw[e] at f;cases f;rw[d] at j
 injection j with q _
 have:c=b:=by simpa using congrArg Array.toList q
 subst this;exact r.inj m
abbrev Cx.wish(X:Cx)(E:Value->Shared->Prop):Cx:={X with xe:=E}
abbrev Cx.nox(X:Cx):Cx:=X.wish λ_ _=>False
def Cx.Ok.wish{X:Cx}(ok:X.Ok)(E:Value->Shared->Prop):(X.wish E).Ok :=
 ⟨ok.mod,ok.kind,ok.glob,ok.blt,ok.above,ok.inj,ok.has,ok.cab,ok.hd,ok.frames,ok.stk,ok.exf,ok.bs,ok.bsz,ok.noex,ok.exfs,ok.funs,ok.frf⟩
def Cx.Ok.unwish{X:Cx}  (ok:(X.wish E).Ok):X.Ok :=
 ⟨ok.mod,ok.kind,ok.glob,ok.blt,ok.above,ok.inj,ok.has,ok.cab,ok.hd,ok.frames,ok.stk,ok.exf,ok.bs,ok.bsz,ok.noex,ok.exfs,ok.funs,ok.frf⟩
def Inv.wish{σ:St}(I:Inv X b σ H s)(E:Value->Shared->Prop):Inv (X.wish E) b σ H s:=⟨I.ok.wish E,I.os,I.bare,I.base,I.loc,I.cell,I.free,I.freeC,I.pin,I.hok,I.len⟩
def Inv.unwish{σ:St}(I:Inv (X.wish E) b σ H s):Inv X b σ H s:=⟨I.ok.unwish,I.os,I.bare,I.base,I.loc,I.cell,I.free,I.freeC,I.pin,I.hok,I.len⟩
def SP.unwish    (h:SP (X.wish E) pins D f s'):SP X pins D f s':=by
 cases f with
 |next=>obtain⟨b,c,I,q⟩:=h;exact⟨b,c,I.unwish,q⟩
 |brk=>obtain⟨b,c,I,q⟩:=h;exact⟨b,c,I.unwish,q⟩
 |cont=>obtain⟨b,c,I,q⟩:=h;exact⟨b,c,I.unwish,q⟩
 |ret u=>obtain⟨v,b,c,I,r,q⟩:=h;exact⟨v,b,c,I.unwish,r,q⟩
def PSs.nox{st:List Stmt}  (h:PSs X.nox st t):PSs X st t:=λpins s σ H D I hw =>
 zT (h pins s σ H D (I.wish _) hw) (λ_ _ q=>q.unwish) λ_ _ z=>False.elim z
def PL:TS:=λD σ H=>D.nx σ H
def PN(t u:TS):TS:=λD σ H=>t {D with nx:=u D} σ H
def PP:PSs X [] PL:=λ_ _ σ H _ I h=>wpAny_execs_nil ⟨σ,H,I,h⟩
def PQ{st:Stmt}{rest:List Stmt}(h1:PS X st t)(h2:PSs X rest u):PSs X (st::rest) (PN t u):=by
 intro pins s σ H D I h;refine wpAny_execs_cons (thn (h1 _ s σ H _ I h) λf b q=>?_)
 cases f with
 |next =>
  obtain⟨j,d,c,q⟩:=q;exact h2 _ b _ d D c q
 | ret v
 | brk
 |cont=>exact q
def PX{st:Stmt}(h1:PS X st t):PSs X [st] t:=by
 intro pins s σ H D I h;refine wpAny_execs_cons (thn (h1 _ s σ H D I h) λf b q=>?_)
 cases f with
 |next=>exact wpAny_execs_nil q
 | ret v
 | brk
 |cont=>exact q
def Inv.quiet  {σ:St}   (I:Inv X b σ H s):interactive X.env=false:=by simp[interactive,I.ok.kind]
def P0(te:TE):TS:=λD σ H=>te σ H λ_ b=>D.nx σ b
def mY(b:PE X e te)(hs:swapsWith e none c.line X.env=pure false:=by rfl):PS X (.Expr e c) (P0 te):=by
 intro pins s σ H D I h;exact wpAny_Expr_any (thn (b _ s σ H _ I h) λv s1 ⟨x,H1,I1,r1,q1⟩=>⟨σ,H1,I1,q1⟩) I.quiet hs
def Qa(te:TE):TS:=λD σ H=>te σ H D.rt
def De(b:PE X e te):PS X (.Return (some e) c) (Qa te):=by
 intro pins s σ H D I h;exact wpAny_Return_some (thn (b _ s σ H _ I h) λv s1 ⟨x,H1,I1,r1,q1⟩=>⟨x,σ,H1,I1,r1,q1⟩)
def Qc(c:TT)(t u:TS):TS:=λD σ H=>c σ H λb d=>if b=true then t D σ d else u D σ d
def Qd    (f:PT X c tc)(j:PSs X a t)(hb:PSs X b u):PS X (.If c a b pos) (Qc tc t u):=by
 intro pins s σ H D I h;refine wpAny_If (thn (f _ s σ H _ I h) λd s1 ⟨H1,I1,q1⟩=>?_)
 cases d with
 |true=>exact j _ s1 σ H1 D I1 q1
 |false=>exact hb _ s1 σ H1 D I1 q1
def Qe:TS:=λ_ _ _=>False
def Qf{st:Stmt}:PS X st Qe:=λ_ _ _ _ _ _ h=>h.elim
abbrev TG:=V->St->Hp->(St->Hp->Prop)->Prop
abbrev TGs:=List V->St->Hp->(St->Hp->Prop)->Prop
def PG(X:Cx)(target:Expr)(t:TG):Prop :=
 ∀(pins:List (Addr×Obj)) (s:Shared) (σ:St) (H:Hp) (v:V) (u:Value) (Q:St->Hp->Prop),Inv X pins σ H s->RelV v u->t v σ H Q ->
  wpAny (model X.prog X.w) X.A (assign target X.env u) (λ_ d=>∃b c,Inv X pins b c d/\Q b c) X.xe s
def PGs(X:Cx)(ts:List Expr)(t:TGs):Prop :=
 ∀(pins:List (Addr×Obj)) (s:Shared) (σ:St) (H:Hp) (c:List V) (d:List Value) (Q:St->Hp->Prop),Inv X pins σ H s->aF c d->t c σ H Q ->
  wpAny (model X.prog X.w) X.A (assignInOrder ((assignEach ts X.env).map (·.2)) d) (λ_ j=>∃b f,Inv X pins b f j/\Q b f) X.xe s
abbrev Dg:=V->V->V->Hp->(Hp->Prop)->Prop
def Dh(X:Cx)(t:Dg):Prop :=
 ∀(pins:List (Addr×Obj)) (s:Shared) (σ:St) (H:Hp) (o i v:V) (b c u:Value) (Q:Hp->Prop),Inv X pins σ H s->RelV o b->RelV i c->RelV v u->t o i v H Q ->
  wpAny (model X.prog X.w) X.A (setItem b c u) (λ_ f=>∃d,Inv X pins σ d f/\Q d) X.xe s
def pF(i:Nat):TG:=λv σ H Q=>Q (σ.set i (some v)) H
def Qg   (hN:X.N.Nodup)(b:X.N[i]?=some x)(hx:Loc X.env.scope x)(f:X.fn x=true\/X.env.scope.names.lookup x=some .local:=by first | exact .inl rfl | exact .inr rfl | assumption):PG X (.Name x pos) (pF i):=by
 intro pins s σ H v u Q I r h;exact wpAny_assign_Name (vZ I hN b hx r λd c=>⟨_,H,c,h⟩)
def Qh:TGs:=λb σ H Q=>b=[]/\Q σ H
def Qi(t:TG)(u:TGs):TGs:=λc σ H Q=>∃v r,c=v::r/\t v σ H λb d=>u r b d Q
def Qj:PGs X [] Qh:=by
 intro pins s σ H b c Q I r h;obtain⟨e,h⟩:=h;exact assignInOrder_nil ⟨σ,H,I,h⟩
def Qk     (h1:PG X e t)(h2:PGs X es u)
  (hs:(assignEach (e::es) X.env).map (·.2)=assign e X.env::(assignEach es X.env).map (·.2):=by rfl):PGs X (e::es) (Qi t u):=by
 intro pins s σ H c f Q I r h;obtain⟨v,d,b,h⟩:=h;subst b
 cases r with
 |cons r rr =>
  rw[hs];refine assignInOrder_cons (thn (h1 _ s σ H _ _ _ I r h) λ_ s1 ⟨σ1,H1,I1,q1⟩=>?_);exact h2 _ s1 _ H1 _ _ Q I1 rr q1
def Ql(K:PySem.W.Frag)(n:Nat)(t:TGs):TG:=λv σ H Q=>∃a b,v=.ref a/\SqT K H a b/\b.length=n/\t b σ H Q
def Qm{d:Pos}  {k:Nat}   (E:X.calm=true)(h:PGs X es t)
  (y:(assignEach es X.env).length=n:=by rfl) (f:(assignEach es X.env).findIdx? (·.1)=none:=by rfl):PG X (.Tuple es k d) (Ql X.K n t):=by
 intro pins s σ H v u Q I r c;obtain⟨a,j,F,x,C,c⟩:=c;subst F;cases r;obtain⟨J,m,q,L⟩:=I.tuple x
 refine assign_Tuple_tuple (I.ok.hd E) q (by simp[y,<-C,m.length]) f λO hx=>?_
 have G :=I.kept (t':=s.toks) λb o e=>hx b o (zq (zj e)) e
 exact h _ _ σ H j _ Q G (by simpa ) c
def Qn(to ti:TE)(t:Dg):TG:=λv σ H Q=>to σ H λo d=>ti σ d λi c=>t o i v c λb=>Q σ b
def Qo    (b:PE X o to)(c:PE X i ti)(hs:Dh X t)
  (d:∀v,assign (.Subscript o i f) X.env v=(do
   let ov <-holding [v] (eval o X.env)
   let iv <-holding [v,ov] (eval i X.env)
   standAt f
   holding [v,ov,iv] (setItem ov iv v)
   release [v,ov,iv] []):=by intro _;rfl):PG X (.Subscript o i f) (Qn to ti t):=by
 intro pins s σ H v u Q I r h;refine za (zP (thn (b _ s σ H _ I h) λov s1 ⟨x,H1,I1,r1,q1⟩=>?_));refine za (zP (thn (c _ s1 σ H1 _ I1 q1) λiv s2 ⟨y,H2,I2,r2,q2⟩=>?_));refine za (wpAny_standAt (za (zP (thn (hs _ s2 σ H2 x y v ov iv u _ I2 r1 r2 r q2) λ_ s3 ⟨H3,I3,q3⟩=>?_))));exact wpAny_release ⟨σ,H3,I3,q3⟩
def pH(te:TE)(g:TG):TS:=λD σ H=>te σ H λx b=>g x σ b D.nx
def Di{b:Pos}    (f:PE X e te)(d:PG X m g)(hs:swapsWithSole [m] e b.line X.env=pure false:=by rfl)(c:swappedStores [m] e X.env=pure none:=by rfl)
  (h1:(assignEach [m] X.env).map (·.2)=[assign m X.env]:=by rfl):PS X (.Assign [m] e b) (pH te g):=by
 intro pins s σ H D I h;refine wpAny_Assign_stores (thn (f _ s σ H _ I h) λv s1 ⟨x,H1,I1,r1,q1⟩=>?_) hs c;rw[h1]
 exact thn (d _ s1 σ H1 x v _ I1 r1 q1) λ_ j q=>q
def Dj{b:Pos}      (hN:X.N.Nodup)(c:X.N[i]?=some x)(hx:Loc X.env.scope x)(f:PE X e te)(hs:swapsWith e (some (.Name x q)) b.line X.env=pure false:=by rfl)(d:X.fn x=true\/X.env.scope.names.lookup x=some .local:=by first | exact .inl rfl | exact .inr rfl | assumption):
  PS X (.Assign [.Name x q] e b) (pH te (pF i)):=by
 intro pins s σ H D I h;refine wpAny_Assign_Name (thn (f pins s σ H _ I h) λv s1 ⟨y,H1,I1,r1,q1⟩=>?_) hs;exact vZ I1 hN c hx r1 (λm j=>⟨_,H1,j,q1⟩) d
def Dk(c:TT)(u:TS):TS:=λD σ H=>∃W:Nat->St->Hp->Prop,(∃m,W m σ H)/\∀m σ H,W m σ H ->
 c σ H λb j=>if b=true then ∃N:St->Hp->Prop,(∀d q,N d q->∃f,f<m/\W f d q)/\u {D with nx:=N,ct:=N,bk:=D.nx} σ j else D.nx σ j
def Qp     (u:PassesOwn (model X.prog X.w) X.A X.env X.xe)(P:PT X c tc)(hb:PSs X body tb):PS X (.While c body [] pos) (Dk tc tb):=by
 intro pins s σ H D I h;obtain⟨W,⟨J,E⟩,turn⟩:=h;refine wpAny_While (codeAny_whileLoop (λn F=>∃d y,Inv X _ d y F/\W n d y) ?_ J ⟨σ,H,I,E⟩);rintro n s1 ⟨σ1,H1,I1,w1⟩;refine wpAny_passesOwn u (thn (P _ s1 _ H1 _ I1 (turn n _ H1 w1)) λb s2 ⟨H2,I2,j⟩=>?_)
 cases b with
 |true =>
  obtain⟨N,hN,j⟩:=j;refine wpAny_passesOwn u (thn (hb _ s2 _ H2 _ I2 j) λf R q=>?_)
  cases f with
  | next
  |cont =>
   obtain⟨m,x,Q,G⟩:=q;obtain⟨L,O,C⟩:=hN _ x G;exact⟨L,O,m,x,Q,C⟩
  | brk
  |ret v=>exact q
 |false =>
  exact wpAny_execs_nil ⟨σ1,H2,I2,j⟩
structure It where
 go:Nat->Hp->Prop
 yld:Nat->Hp->V->Hp->Prop
 stop:Nat->Hp->Prop
def fB(X:Cx)(pins:List (Addr×Obj))(H:Hp)(b:Addr):Prop :=
 H b=none/\b≠X.env.locals/\b∉X.fs/\(b∈X.ex\/X.s₀.heap.objs.size<=b)/\(∀x c,X.env.cells.lookup x=some c->c≠b)/\∀p∈X.pn++pins,p.1≠b
def Inv.fpOk   {σ:St}   {b:Addr}(I:Inv X j σ H s)(hb:s.heap.objs.size<=b)(f:m b=none):fB X j m b:=by
 refine⟨f,Nat.ne_of_gt (zI I.lt hb),I.nofs hb,.inr (zG I.sz hb),λx c e z=>?_,λp d z=>?_⟩
 ·obtain⟨v,q⟩:=I.cell x c e;exact absurd (zI q.lt (by rw[z];exact hb)) (zU _)
 ·exact absurd (zI (zj (I.pin p d).1) (by rw[z];exact hb)) (zU _)
structure Turn(P:Program)(w:World)(K:PySem.W.Frag)(tg:Expr)(J:It)(fp:List Addr)(it:Addr)(tn:Nat->Heap->Prop):Prop where
 mem:it∈fp
 obj:∀i h,tn i h->∀b∈fp,∃o,h.get? b=some o/\∀v,o.data≠.cell v
 keep:∀i h h',tn i h->(∀b∈fp,∀o,h.get? b=some o->h'.get? b=some o)->tn i h'
 item:∀(X:Cx),X.prog=P->X.w=w->X.K=K->X.calm=true->∀(i:Nat) (pins:List (Addr×Obj)) (s:Shared) (σ:St) (H:Hp) (E:Value->Shared->Prop),Inv X pins σ H s->(∀b∈fp,fB X pins H b)->tn i s.heap->J.go i H ->
  wpAny (model P w) X.A (pyNext (.ref it)) (λr s1=>∃u,r=some u /\
   wpAny (model P w) X.A (letOwnedTupleGo tg (.ref it) u) (λ_ s2=>∃x H',Inv X pins σ H' s2/\RelV x u/\J.yld i H x H'/\tn (i+1) s2.heap/\∀b∈fp,H' b=none) E s1) E s
 done:∀(X:Cx),X.prog=P->X.w=w->X.K=K->X.calm=true->∀(i:Nat) (pins:List (Addr×Obj)) (s:Shared) (σ:St) (H:Hp) (E:Value->Shared->Prop),Inv X pins σ H s->(∀b∈fp,fB X pins H b)->tn i s.heap->J.stop i H ->
  wpAny (model P w) X.A (pyNext (.ref it)) (λr s1=>r=none/\Inv X pins σ H s1) E s
 self:∀(A:Around) (i:Nat) (s:Shared) (Q:Value->Shared->Prop) (E:Value->Shared->Prop),tn i s.heap->Q (.ref it) s->wpAny (model P w) A (pyIter (.ref it)) Q E s
abbrev TI:=St->Hp->(It->Hp->Prop)->Prop
def PIE(X:Cx)(pins:List (Addr×Obj))(σ:St)(m:Expr)(R:It->Hp->Prop)(d:Value)(j:Shared):Prop :=
 ∃(it:Addr) (fp:List Addr) (f:Nat->Heap->Prop) (J:It) (c:Hp),d=.ref it/\Inv X pins σ c j/\Turn X.prog X.w X.K m J fp it f/\f 0 j.heap/\(∀b∈fp,fB X pins c b)/\R J c
def PI(X:Cx)(c iter:Expr)(b:TI):Prop :=
 ∀(pins:List (Addr×Obj)) (s:Shared) (σ:St) (H:Hp) (R:It->Hp->Prop),Inv X pins σ H s->b σ H R ->
  wpAny (model X.prog X.w) X.A (eval iter X.env) (λv d=>wpAny (model X.prog X.w) X.A (pyIter v) (PIE X pins σ c R) X.xe d) X.xe s
def mZ            (c:s.heap.get? it=some o)(f:o.cls=.type n)(hd:o.data=.fields vs)
  (d:["enumerate","zip","dict_itemiterator","dict_reverseitemiterator","odict_iterator","itertools.zip_longest","itertools.pairwise"].contains n=false) (b:Q () s):wpAny M A (letOwnedTupleGo j (.ref it) u) Q E s:=by
 unfold letOwnedTupleGo
 cases j<;>first
  | exact zb b
  | (cases u<;>first
    | exact zb b
    | (refine za (wpAny_load c ?_)
       rw[f,hd];show wpAny M A (if(["enumerate","zip","dict_itemiterator","dict_reverseitemiterator","odict_iterator","itertools.zip_longest","itertools.pairwise"].contains n&&vs[0]? == some (rawInt _))=true then _ else _) Q E s;rw[if_neg (by intro h;rw[d,Bool.false_and] at h;cases h)]
       exact zb b))
noncomputable def Itl(K:PySem.W.Frag)(a:Addr):It :=
 ⟨λi H=>∃b x,SqL K H a b/\b[i]?=some x,λi H x c=>c=H/\∀b,SqL K H a b->b[i]?=some x,λi H=>∃b,SqL K H a b/\b.length<=i⟩
noncomputable def Itt(K:PySem.W.Frag)(a:Addr):It :=
 ⟨λi H=>∃b x,SqT K H a b/\b[i]?=some x,λi H x c=>c=H/\∀b,SqT K H a b->b[i]?=some x,λi H=>∃b,SqT K H a b/\b.length<=i⟩
noncomputable def Itr(b:Int)(n:Nat):It:=⟨λi _=>i<n,λi H x c=>c=H/\x=.int (b+i),λi _=>n<=i⟩
def Qq   {K:PySem.W.Frag}  (a it:Addr):Turn P w K tg (Itl K a) [it] it (λi h=>h.IsListIter it a i) where
 mem:=by simp
 obj:=λi h st b hb=>by
  have e:b=it:=by simpa using hb
  subst e;obtain⟨o,e,c,d⟩:=st;exact⟨o,e,λv z=>by rw[d] at z;cases z⟩
 keep:=λi h h' st k=>st.at λo e=>k it (by simp) o e
 item:=by
  intro X hP hw hK hc i pins s σ H E I hf st hg;subst hP hw hK;obtain⟨xs,x,hq,hx⟩:=hg;obtain⟨its,rv,p,hz⟩:=I.list hq;obtain⟨u,hu,ru⟩:=rv.get hx;obtain⟨f0,f1,f2,f3,f4,f5⟩:=hf it (by simp)
  refine wpAny_pyNext_list_item st p.isList (x:=u) (by simpa using hu) λh' st' sb=>?_
  have I1:Inv X pins σ H {s with heap:=h'}:=I.turned (t':=s.toks) (λb o hb e=>(sb.2 b hb).trans e) f0 f1 f3 f4 f5;obtain⟨o,e,c,d⟩:=id st';exact⟨u,rfl,mZ (s:={s with heap:=h'}) e c d (by decide) ⟨x,H,I1,ru,⟨rfl,λys hy=>by rw[I.list_inj hy hq];exact hx⟩,st',λb hb=>(hf b hb).1⟩⟩
 done:=by
  intro X hP hw hK hc i pins s σ H E I hf st hg;subst hP hw hK;obtain⟨xs,hq,hx⟩:=hg;obtain⟨its,rv,p,hz⟩:=I.list hq;obtain⟨f0,f1,f2,f3,f4,f5⟩:=hf it (by simp);have hl:=rv.length
  exact wpAny_pyNext_list_end (I.ok.hd hc) st p.isList (by simp;omega) λh' eb=>⟨rfl,I.turned (t':=s.toks) (λb o hb e=>eb b o hb e) f0 f1 f3 f4 f5⟩
 self:=λ_ _ _ _ _ st h=>wpAny_pyIter_listiter st h
def Qs   {K:PySem.W.Frag}  (a it:Addr):Turn P w K tg (Itt K a) [it] it (λi h=>h.IsTupleIter it a i) where
 mem:=by simp
 obj:=λi h st b hb=>by
  have e:b=it:=by simpa using hb
  subst e;obtain⟨o,e,c,d⟩:=st;exact⟨o,e,λv z=>by rw[d] at z;cases z⟩
 keep:=λi h h' st k=>st.at λo e=>k it (by simp) o e
 item:=by
  intro X hP hw hK hc i pins s σ H E I hf st hg;subst hP hw hK;obtain⟨xs,x,hq,hx⟩:=hg;obtain⟨its,rv,p,hz⟩:=I.tuple hq;obtain⟨u,hu,ru⟩:=rv.get hx;obtain⟨f0,f1,f2,f3,f4,f5⟩:=hf it (by simp)
  refine wpAny_pyNext_tuple_item st (show s.heap.IsTuple a its.toArray from p) (x:=u) (by simpa using hu) λh' st' sb=>?_
  have I1:Inv X pins σ H {s with heap:=h'}:=I.turned (t':=s.toks) (λb o hb e=>(sb.2 b hb).trans e) f0 f1 f3 f4 f5;obtain⟨o,e,c,d⟩:=id st';exact⟨u,rfl,mZ (s:={s with heap:=h'}) e c d (by decide) ⟨x,H,I1,ru,⟨rfl,λys hy=>by rw[I.tuple_inj hy hq];exact hx⟩,st',λb hb=>(hf b hb).1⟩⟩
 done:=by
  intro X hP hw hK hc i pins s σ H E I hf st hg;subst hP hw hK;obtain⟨xs,hq,hx⟩:=hg;obtain⟨its,rv,p,hz⟩:=I.tuple hq;obtain⟨f0,f1,f2,f3,f4,f5⟩:=hf it (by simp);have hl:=rv.length
  exact wpAny_pyNext_tuple_end (I.ok.hd hc) st (show s.heap.IsTuple a its.toArray from p) (by simp;omega) λh' eb=>⟨rfl,I.turned (t':=s.toks) (λb o hb e=>eb b o hb e) f0 f1 f3 f4 f5⟩
 self:=λ_ _ _ _ _ st h=>wpAny_pyIter_tupleiter st h
def Qt   {K:PySem.W.Frag}  (it:Addr)(lo:Int)(n:Nat):Turn P w K tg (Itr lo n) [it] it (λi h=>IsRangeIter h it (lo+(i:Nat) * 1) ((n:Int) - (i:Nat)) 1) where
 mem:=by simp
 obj:=λi h st b hb=>by
  have e:b=it:=by simpa using hb
  subst e
  exact⟨_,st,λv z=>by
   have z':Data.fields _=Data.cell v:=z
   cases z'⟩
 keep:=λi h h' st k=>k it (by simp) _ st
 item:=by
  intro X hP hw hK hc i pins s σ H E I hf st hg;subst hP hw hK;obtain⟨f0,f1,f2,f3,f4,f5⟩:=hf it (by simp);have W:=Walks.range (prog:=X.prog) (w:=X.w) (I.ok.hd hc) it lo 1 n
  refine W.item i s _ _ hg st λv h' tk hv st' kk=>?_
  obtain⟨t,rfl⟩:=hv;have I1:Inv X pins σ H {s with heap:=h',toks:=tk}:=I.turned (λb o hb e=>kk b o (by simpa using hb) e) f0 f1 f3 f4 f5;refine⟨_,rfl,mZ (s:={s with heap:=h',toks:=tk}) (n:="range_iterator") st' rfl rfl (by decide) ⟨.int (lo+i),H,I1,⟨t,?_⟩,⟨rfl,rfl⟩,st',λb hb=>(hf b hb).1⟩⟩;rw[Int.mul_one]
 done:=by
  intro X hP hw hK hc i pins s σ H E I hf st hg;subst hP hw hK;obtain⟨f0,f1,f2,f3,f4,f5⟩:=hf it (by simp)
  exact wpAny_pyNext_range_end (I.ok.hd hc) st (by have:n<=i:=hg;omega) λh' eb=>⟨rfl,I.turned (t':=s.toks) (λb o hb e=>eb b o hb e) f0 f1 f3 f4 f5⟩
 self:=λ_ _ _ _ _ st h=>wpAny_pyIter_rangeiter st h
def v8(K:PySem.W.Frag)(tl:TE):TI:=λσ H R=>tl σ H λx b=>∃a,x=.ref a/\(∃c,SqL K b a c)/\R (Itl K a) b
def Qu(K:PySem.W.Frag)(tl:TE):TI:=λσ H R=>tl σ H λx b=>∃a,x=.ref a/\(∃c,SqT K b a c)/\R (Itt K a) b
def rY   (d:PE X l tl):PI X C l (v8 X.K tl):=by
 intro pins s σ H R I h
 refine thn (d _ s σ H _ I h) λv s1 ⟨x,H1,I1,r1,q1⟩=>?_
 obtain⟨a,e,⟨m,c⟩,q⟩:=q1;subst e;cases r1;obtain⟨j,u,p,y⟩:=I1.list c;refine wpAny_pyIter_list p.isList ?_;refine⟨s1.heap.objs.size,[s1.heap.objs.size],_,_,H1,rfl,I1.kept λb o e=>zo _ e,Qq a _,⟨_,zy _ rfl,rfl,rfl⟩,λb f=>?_,q⟩
 have e :=by simpa using f
 subst e;exact I1.fpOk (zc _) (I1.hok.fresh (zc _))
def Qv   (d:PE X l tl):PI X C l (Qu X.K tl):=by
 intro pins s σ H R I h
 refine thn (d _ s σ H _ I h) λv s1 ⟨x,H1,I1,r1,q1⟩=>?_
 obtain⟨a,e,⟨m,c⟩,q⟩:=q1;subst e;cases r1;obtain⟨j,u,p,y⟩:=I1.tuple c;refine wpAny_pyIter_tuple (p) ?_;refine⟨s1.heap.objs.size,[s1.heap.objs.size],_,_,H1,rfl,I1.kept λb o e=>zo _ e,Qs a _,⟨_,zy _ rfl,rfl,rfl⟩,λb f=>?_,q⟩
 have e :=by simpa using f
 subst e;exact I1.fpOk (zc _) (I1.hok.fresh (zc _))
def Qw  {σ:St}     {c:Int}   (I:Inv X y σ H s)(h1:-(2 ^ 62)<=c)(h2:c<2 ^ 62)(h3:-(2 ^ 62)<=x)(h4:x<2 ^ 62)
  (q:R (Itr c (x - c).toNat) H):wpAny (model X.prog X.w) X.A (pyIter (.ref s.heap.objs.size)) (PIE X y σ C R) E {s with heap:=s.heap.push {cls:=.type "range",data:=.fields #[.int c t,.int x u,.int 1 v]},toks:=tk}:=by
 refine wpAny_pyIter_range (IsRange.new ..) (small_one h1 h2 h3 h4) ?_
 have d:Inv X y σ H {s with heap:=s.heap.push {cls:=.type "range",data:=.fields #[.int c t,.int x u,.int 1 v]},toks:=tk}:=I.kept λb o e=>zo _ e
 refine⟨(s.heap.push {cls:=.type "range",data:=.fields #[.int c t,.int x u,.int 1 v]}).objs.size,[(s.heap.push {cls:=.type "range",data:=.fields #[.int c t,.int x u,.int 1 v]}).objs.size],_,_,H,rfl,
  d.kept (t':=tk) λb o e=>zo _ e,Qt _ c (x - c).toNat,?_,λb f=>?_,q⟩
 ·have m:c+((0:Nat):Int) * 1=c:=by simp
  have j:(((x - c).toNat:Nat):Int) - ((0:Nat):Int)=Builtin.Range.rangeSize c x 1:=by rw[rangeSize_one];split<;>omega
  show IsRangeIter _ _ (c+((0:Nat):Int) * 1) ((((x - c).toNat:Nat):Int) - ((0:Nat):Int)) 1;rw[m,j];exact zy _ rfl
 ·have e:b=(s.heap.push {cls:=.type "range",data:=.fields #[.int c t,.int x u,.int 1 v]}).objs.size:=by simpa using f
  subst e;exact d.fpOk (zc _) (d.hok.fresh (zc _))
def Qx(c:TA):TI:=λσ H R=>c σ H λb d=>∃j:Int,b=[.int j]/\-(2 ^ 62)<=j/\j<2 ^ 62/\R (Itr 0 j.toNat) d
def Qy    (f:Gl X "range")(d:X.mg "range" = none)(m:PA X [a] ta)(hs:starEach [a] X.env=[(false,eval a X.env)]:=by rfl):PI X tg (.Call (.Name "range" p) [a] [] pos) (Qx ta):=by
 intro pins s σ H R I h;refine Call_ (j7 I f d boot_range (PyProof.Rows.callWith_type1 (thn (m _ _ s σ H _ I h) λus s1 ⟨vs,H1,I1,r1,b⟩=>?_) hs));obtain⟨j,e,b,c,q⟩:=b;subst e
 cases r1 with
 |cons r rr =>
  cases rr;obtain⟨t,rfl⟩:=r;exact call_range_1 (Qw I1 (by omega) (by omega) b c (by simpa ))
def v9(j:TI)(g:TG)(q:TS):TS:=λD σ H=>j σ H λJ y=>∃W:Nat->Nat->St->Hp->Prop,(∃m,W 0 m σ y)/\∀i m σ H,W i m σ H ->
 (J.stop i H/\D.nx σ H)\/(J.go i H/\∃N:St->Hp->Prop,(∀c b,N c b->∃f,f<m/\W (i+1) f c b)/\∀x b,J.yld i H x b->g x σ b λd u=>q {D with nx:=N,ct:=N,bk:=D.nx} d u)
def pI(fp:List Addr)(h:Heap):List (Addr×Obj):=fp.filterMap λb=>(h.get? b).map λo=>(b,o)
def rZ     (hb:b∈fp)(e:h.get? b=some o):(b,o)∈pI fp h:=List.mem_filterMap.mpr ⟨b,hb,by rw[e];rfl⟩
def Qz    (c:p∈pI fp h):p.1∈fp/\h.get? p.1=some p.2:=by
 obtain⟨b,d,e⟩:=List.mem_filterMap.mp c
 cases q:h.get? b with
 |none=>rw[q] at e;cases e
 |some o =>
  rw[q] at e;have e' :=zC e;subst e';exact⟨d,q⟩
def Inv.pinned  {σ:St}    (I:Inv X y σ H s)(q:∀b∈fp,fB X y H b)(m:∀b∈fp,∃o,s.heap.get? b=some o/\∀v,o.data≠.cell v):Inv X (y++pI fp s.heap) σ H s :=
 I.pins_of λp j=>(zB.mp j).elim (λz=>I.pin p (zS _ z)) λz=>by
  obtain⟨c,e⟩:=Qz z;obtain⟨f0,x,u,_⟩:=q p.1 c;obtain⟨o,f,d⟩:=m p.1 c;rw[e] at f;cases f;exact⟨e,f0,x,u,d⟩
def Inv.unpinned  {σ:St}   (I:Inv X (c++pl) σ H s):Inv X c σ H s:=I.pins_of λp b=>I.pin p (zS _ (jk _ b))
def Dl       (O:PassesOwn (model X.prog X.w) X.A X.env X.xe)(hc:X.calm=true)(hi:PI X tg iter wi)(hg:PG X tg g)(hb:PSs X body tb)
  (hs:∀x,foldedSetIterable iter X.env x=pure x:=by intro _;rfl):PS X (.For tg iter body [] pos) (v9 wi g tb):=by
 intro pins s σ H D I h;refine wpAny_For (thn (hi pins s σ H _ I h) λv s1 h1=>thn h1 λitv s2 h2=>?_) hs;obtain⟨it,fp,tn,J,H2,e,I2,T,Z,f2,W,⟨m0,w0⟩,turn⟩:=h2;subst e
 have E:∀{F:Hp},(∀b∈fp,F b=none)->∀b∈fp,fB X pins F b:=λhn b hb=>⟨hn b hb,(f2 b hb).2⟩
 refine codeAny_forLoop_any (λn s'=>∃i C F,Inv X pins C F s'/\tn i s'.heap/\(∀b∈fp,F b=none)/\W i n C F) ?_ m0 ⟨0,σ,H2,I2,Z,λb hb=>(f2 b hb).1,w0⟩;rintro n s3 ⟨i,y,R,I3,P,Q,w3⟩
 rcases turn i n y R w3 with⟨stop,qn⟩ | ⟨go,N,hN,step⟩
 ·refine wpAny_passesOwn O (thn (T.done X rfl rfl rfl hc i pins s3 y R X.xe I3 (E Q) P stop) λr s4 ⟨Y,I4⟩=>?_);subst Y;exact wpAny_execs_nil ⟨y,R,I4,qn⟩
 ·refine wpAny_passesOwn O (thn (T.item X rfl rfl rfl hc i pins s3 y R X.xe I3 (E Q) P go) λr s4 ⟨u,Y,h4⟩=>?_);subst Y;refine wpAny_passesOwn O (thn h4 λ_ s5 ⟨x,H5,I5,r5,y5,st5,fr5⟩=>?_);have I5':=I5.pinned (E fr5) (T.obj _ _ st5);refine wpAny_passesOwn O (thn (hg _ s5 y H5 x u _ I5' r5 (step x H5 y5)) λ_ s6 ⟨σ6,H6,I6,q6⟩=>?_);refine wpAny_passesOwn O (thn (hb _ s6 σ6 H6 _ I6 q6) λf U G=>?_)
  have again:∀{c:St}{q:Hp},Inv X (pins++pI fp s5.heap) c q U->N c q->∃m,m<n/\∃i C F,Inv X pins C F U/\tn i U.heap/\(∀b∈fp,F b=none)/\W i m C F:=λ{c q} j L=>by
   obtain⟨m',hm,w7⟩:=hN c q L;refine⟨m',hm,i+1,c,q,j.unpinned,T.keep _ _ _ st5 λb hb o e=>(j.pin (b,o) (zS _ (zS _ (rZ hb e)))).1,λb hb=>?_,w7⟩;obtain⟨o,e,d⟩:=T.obj _ _ st5 b hb;exact(j.pin (b,o) (zS _ (zS _ (rZ hb e)))).2.1
  cases f with
  |next=>obtain⟨c,q,j,L⟩:=G;exact again j L
  |cont=>obtain⟨c,q,j,L⟩:=G;exact again j L
  |brk=>obtain⟨c,q,j,G⟩:=G;exact⟨c,q,j.unpinned,G⟩
  |ret v=>obtain⟨x7,c,q,j,r7,G⟩:=G;exact⟨x7,c,q,j.unpinned,r7,G⟩
abbrev R2:=V->V->Hp->VK->Prop
def OpR(X:Cx)(f:Value->Value->Sem Value)(r:R2):Prop :=
 ∀(pins:List (Addr×Obj)) (s:Shared) (σ:St) (H:Hp) (x y:V) (v u:Value) (Q:VK),Inv X pins σ H s->RelV x v->RelV y u->r x y H Q ->
  wpAny (model X.prog X.w) X.A (f v u) (EP X pins σ Q) X.xe s
def UnR(X:Cx)(f:Value->Sem Value)(r:V->Hp->VK->Prop):Prop :=
 ∀(pins:List (Addr×Obj)) (s:Shared) (σ:St) (H:Hp) (x:V) (v:Value) (Q:VK),Inv X pins σ H s->RelV x v->r x H Q ->
  wpAny (model X.prog X.w) X.A (f v) (EP X pins σ Q) X.xe s
def fK(X:Cx)(f:Value)(r:List V->Hp->VK->Prop):Prop :=
 ∀(pins:List (Addr×Obj)) (s:Shared) (σ:St) (H:Hp) (b:List V) (c:List Value) (Q:VK),Inv X pins σ H s->aF b c->r b H Q ->
  wpAny (model X.prog X.w) X.A (call f c) (EP X pins σ Q) X.xe s
def QB(X:Cx)(r:V->Hp->(Bool->Hp->Prop)->Prop):Prop :=
 ∀(pins:List (Addr×Obj)) (s:Shared) (σ:St) (H:Hp) (x:V) (v:Value) (Q:Bool->Hp->Prop),Inv X pins σ H s->RelV x v->r x H Q ->
  wpAny (model X.prog X.w) X.A (truthy v) (TP X pins σ Q) X.xe s
def tOp(r:R2)(c b:TE):TE:=λσ H Q=>c σ H λx f=>b σ f λy d=>r x y d Q
def tUn(r:V->Hp->VK->Prop)(b:TE):TE:=λσ H Q=>b σ H λx c=>r x c Q
def rI(C:Int->Int->Prop)(g:Int->Int->V):R2:=λx y H Q=>∃i j,x=.int i/\y=.int j/\C i j/\Q (g i j) H
def rI0(g:Int->Int->V):R2:=λx y H Q=>∃i j,x=.int i/\y=.int j/\Q (g i j) H
def rU(g:Int->V):V->Hp->VK->Prop:=λx H Q=>∃i,x=.int i/\Q (g i) H
def wg(E:PE X a J)(hb:PE X b G)   {σ:St}  {R:V->V->Hp->Prop}(I:Inv X F σ H s)
  (h:J σ H λx q=>G σ q λy c=>R x y c)  {f:Value->Value->Sem Value}
  (C:∀v u m x y c,Inv X F σ c m->RelV x v->RelV y u->R x y c->wpAny (model X.prog X.w) X.A (f v u) Q X.xe m):
  wpAny (model X.prog X.w) X.A (eval a X.env) (λv j=>wpAny (model X.prog X.w) X.A (eval b X.env) (λu d=>wpAny (model X.prog X.w) X.A (f v u) Q X.xe d) X.xe j) X.xe s:=by
 refine thn (E _ s σ H _ I h) λv s1 ⟨x,q,I1,r1,q1⟩=>?_
 refine thn (hb _ s1 σ q _ I1 q1) λu m ⟨y,c,I2,r2,q2⟩=>?_
 exact C v u m x y c I2 r1 r2 q2
def QC   (j:OpR X (binaryOp op) r)(m:PE X a G)(hb:PE X b F):PE X (.BinOp a op b J) (tOp r G F):=by
 intro pins s σ H Q I h;exact wpAny_BinOp (wg m hb I h λv u c x y E C f d q=>j _ c σ E x y v u Q C f d q)
def QD   (b:UnR X (unaryOp op) r)(c:PE X a d):PE X (.UnaryOp op a f) (tUn r d):=by
 intro pins s σ H Q I h;exact UnaryOp_ (thn (c _ s σ H _ I h) λv s1 ⟨x,H1,I1,r1,q1⟩=>b _ s1 σ H1 x v Q I1 r1 q1)
def opI   {g:Int->Int->Int}
  (rule:∀(i j:Int) (t u:Tok) (s:Shared) (Q:Value->Shared->Prop) (E:Value->Shared->Prop),C i j->Q (.int (g i j) s.toks) {s with toks:=s.toks+1}->wpAny (model X.prog X.w) X.A (f (.int i t) (.int j u)) Q E s):
  OpR X f (rI C λi j=>.int (g i j)):=by
 intro pins s σ H x y v u Q I d c h;obtain⟨i,j,rfl,rfl,m,q⟩:=h;obtain⟨t,rfl⟩:=d;obtain⟨b,rfl⟩:=c;exact rule i j t b s _ _ m ⟨.int _,H,I.tok _,⟨_,rfl⟩,q⟩
def Dm  {g:Int->Int->Int}
  (rule:∀(i j:Int) (t u:Tok) (s:Shared) (Q:Value->Shared->Prop) (E:Value->Shared->Prop),Q (.int (g i j) s.toks) {s with toks:=s.toks+1}->wpAny (model X.prog X.w) X.A (f (.int i t) (.int j u)) Q E s):
  OpR X f (rI0 λi j=>.int (g i j)):=by
 intro pins s σ H x y v u Q I d c h;obtain⟨i,j,rfl,rfl,q⟩:=h;obtain⟨t,rfl⟩:=d;obtain⟨b,rfl⟩:=c;exact rule i j t b s _ _ ⟨.int _,H,I.tok _,⟨_,rfl⟩,q⟩
def wj  {g:Int->Int->Bool}
  (rule:∀(i j:Int) (t u:Tok) (s:Shared) (Q:Value->Shared->Prop) (E:Value->Shared->Prop),Q (.bool (g i j)) s->wpAny (model X.prog X.w) X.A (f (.int i t) (.int j u)) Q E s):
  OpR X f (rI0 λi j=>.bl (g i j)):=by
 intro pins s σ H x y v u Q I d c h;obtain⟨i,j,rfl,rfl,q⟩:=h;obtain⟨t,rfl⟩:=d;obtain⟨b,rfl⟩:=c;exact rule i j t b s _ _ ⟨.bl _,H,I,rfl,q⟩
def QF(i j:Int):Prop:=0<j/\j<1073741824
def QG(i j:Int):Prop:=0<=j/\j<=1000000/\i.natAbs<2 ^ 64
def wk(i j:Int):Prop:=(-(2 ^ 64)<i/\i<2 ^ 64)\/(-(2 ^ 64)<j/\j<2 ^ 64)
def wk.ok  (h:wk i j):IntMulOk i j:=by
 rcases h with⟨h1,h2⟩ | ⟨h1,h2⟩
 ·exact .of_left (intBits_le_64 h1 h2)
 ·exact .of_right (intBits_le_64 h1 h2)
def QH:OpR X (binaryOp .Add) (rI0 λi j=>.int (i+j)):=Dm λ_ _ _ _ _ _ _ q=>add_int q
def QJ:OpR X (binaryOp .Sub) (rI0 λi j=>.int (i - j)):=Dm λ_ _ _ _ _ _ _ q=>sub_int q
def QK:OpR X (binaryOp .Mult) (rI wk λi j=>.int (i * j)):=opI λ_ _ _ _ _ _ _ b q=>mul_int q b.ok
def QL:OpR X (binaryOp .FloorDiv) (rI QF λi j=>.int (i / j)):=opI λi j _ _ _ _ _ b q=>by
 have h1:(0:Int)<j:=b.1;have h2:j<1073741824:=b.2;exact floordiv_int (by omega) (by rw[Int.fdiv_eq_ediv_of_nonneg i (by omega)];exact q) (.inl (PyProof.noPylong_small (by omega)))
def QM:OpR X (binaryOp .Mod) (rI (λ_ j=>0<j) λi j=>.int (i % j)):=opI λi j _ _ _ _ _ b q=>by
 have h1:(0:Int)<j:=b;exact mod_int' (by omega) (by rw[Int.fmod_eq_emod_of_nonneg i (by omega)];exact q)
def QQ:OpR X (binaryOp .Pow) (rI QG λi j=>.int (i ^ j.toNat)):=opI λ_ _ _ _ _ _ _ b q=>pow_int_small b.1 b.2.1 b.2.2 q
def unI  {g:Int->Int}
  (rule:∀(i:Int) (t:Tok) (s:Shared) (Q:Value->Shared->Prop) (E:Value->Shared->Prop),Q (.int (g i) s.toks) {s with toks:=s.toks+1}->wpAny (model X.prog X.w) X.A (f (.int i t)) Q E s):
  UnR X f (rU λi=>.int (g i)):=by
 intro pins s σ H x v Q I b h;obtain⟨i,rfl,q⟩:=h;obtain⟨t,rfl⟩:=b;exact rule i t s _ _ ⟨.int _,H,I.tok _,⟨_,rfl⟩,q⟩
def QR:UnR X (unaryOp .USub) (rU λi=>.int (-i)):=unI λ_ _ _ _ _ q=>neg_int q
def QS:OpR X (binaryOp .Add) (λx y H Q=>∃i k,x=.int i/\y=.bl k/\Q (.int (i+b2i k)) H):=by
 intro pins s σ H x y v u Q I c b h;obtain⟨i,k,rfl,rfl,q⟩:=h;obtain⟨t,rfl⟩:=c;cases b;exact add_int_bool ⟨.int _,H,I.tok _,⟨_,rfl⟩,q⟩
def Dn:V->V->Bool
 | .non,.non=>true | .non,.int _=>true | .int _,.non=>true | .non,.bl _=>true | .bl _,.non=>true | .non,.str _=>true | .str _,.non=>true
 | .int _,.int _=>true | .bl _,.bl _=>true | .str _,.str _=>true | .byt _,.byt _=>true
 | .int _,.str _=>true | .str _,.int _=>true | .bl _,.str _=>true | .str _,.bl _=>true
 | _,_=>false
def rEq:R2:=λx y H Q=>Dn x y=true/\Q (.bl (decide (x=y))) H
def rNe:R2:=λx y H Q=>Dn x y=true/\Q (.bl (!decide (x=y))) H
def Do :decide (V.int i=V.int j)=(i == j):=by
 rw[Bool.eq_iff_iff];simp
def Dp :decide (V.bl i=V.bl j)=(i == j):=by
 rw[Bool.eq_iff_iff];simp
def Dq :decide (V.str i=V.str j)=(i == j):=by
 rw[Bool.eq_iff_iff];simp
def Dr :decide (V.byt i=V.byt j)=(i.toList == j.toList):=by
 rw[Bool.eq_iff_iff];cases i;cases j;simp
def bW  {σ:St}     (I:Inv X b σ H s)(q:Q (.bl k) H)(e:k=c):EP X b σ Q (.bool c) s:=by
 subst e;exact⟨.bl k,H,I,rfl,q⟩
def wu:OpR X (compareOp .Eq) rEq:=by
 intro pins s σ H x y v u Q I d b h;obtain⟨hs,q⟩:=h
 cases x with
 |non =>
  cases d
  cases y with
  |non=>cases b;exact PySem.EqNone.eq_none_none (bW I q (by simp))
  |bl j=>cases b;exact PySem.EqNone.eq_none_bool (bW I q (by simp))
  |int j=>obtain⟨c,rfl⟩:=b;exact PySem.EqNone.eq_none_int (bW I q (by simp))
  |str j=>obtain⟨c,rfl⟩:=b;exact PySem.EqNone.eq_none_str (bW I q (by simp))
  | _=>exact absurd (show false=true from hs) zv
 |bl i =>
  cases d
  cases y with
  |non=>cases b;exact PySem.EqNone.eq_bool_none (bW I q (by simp))
  |bl j=>cases b;exact eq_bool (bW I q Dp)
  |str j=>obtain⟨c,rfl⟩:=b;exact PySem.EqMixed.eq_bool_str (bW I q (by simp))
  | _=>exact absurd (show false=true from hs) zv
 |int i =>
  obtain⟨t,rfl⟩:=d
  cases y with
  |non=>cases b;exact PySem.EqNone.eq_int_none (bW I q (by simp))
  |int j=>obtain⟨c,rfl⟩:=b;exact eq_int (bW I q Do)
  |str j=>obtain⟨c,rfl⟩:=b;exact PySem.EqMixed.eq_int_str (bW I q (by simp))
  | _=>exact absurd (show false=true from hs) zv
 |str i =>
  obtain⟨t,rfl⟩:=d
  cases y with
  |non=>cases b;exact PySem.EqNone.eq_str_none (bW I q (by simp))
  |bl j=>cases b;exact PySem.EqMixed.eq_str_bool (bW I q (by simp))
  |int j=>obtain⟨c,rfl⟩:=b;exact PySem.EqMixed.eq_str_int (bW I q (by simp))
  |str j=>obtain⟨c,rfl⟩:=b;exact eq_str (bW I q Dq)
  | _=>exact absurd (show false=true from hs) zv
 |byt i =>
  obtain⟨t,rfl⟩:=d
  cases y with
  |byt j=>obtain⟨c,rfl⟩:=b;exact PySem.W.eq_bytes (bW I q Dr)
  | _=>exact absurd (show false=true from hs) zv
 | _=>cases y<;>exact absurd (show false=true from hs) zv
def wy:OpR X (compareOp .NotEq) rNe:=by
 intro pins s σ H x y v u Q I d b h;obtain⟨hs,q⟩:=h
 cases x with
 |non =>
  cases d
  cases y with
  |non=>cases b;exact PySem.EqNone.ne_none_none (bW I q (by simp))
  |bl j=>cases b;exact PySem.EqNone.ne_none_bool (bW I q (by simp))
  |int j=>obtain⟨c,rfl⟩:=b;exact PySem.EqNone.ne_none_int (bW I q (by simp))
  |str j=>obtain⟨c,rfl⟩:=b;exact PySem.EqNone.ne_none_str (bW I q (by simp))
  | _=>exact absurd (show false=true from hs) zv
 |bl i =>
  cases d
  cases y with
  |non=>cases b;exact PySem.EqNone.ne_bool_none (bW I q (by simp))
  |bl j=>cases b;exact ne_bool (bW I q (congrArg not Dp))
  |str j=>obtain⟨c,rfl⟩:=b;exact PySem.EqMixed.ne_bool_str (bW I q (by simp))
  | _=>exact absurd (show false=true from hs) zv
 |int i =>
  obtain⟨t,rfl⟩:=d
  cases y with
  |non=>cases b;exact PySem.EqNone.ne_int_none (bW I q (by simp))
  |int j=>obtain⟨c,rfl⟩:=b;exact ne_int (bW I q (congrArg not Do))
  |str j=>obtain⟨c,rfl⟩:=b;exact PySem.EqMixed.ne_int_str (bW I q (by simp))
  | _=>exact absurd (show false=true from hs) zv
 |str i =>
  obtain⟨t,rfl⟩:=d
  cases y with
  |non=>cases b;exact PySem.EqNone.ne_str_none (bW I q (by simp))
  |bl j=>cases b;exact PySem.EqMixed.ne_str_bool (bW I q (by simp))
  |int j=>obtain⟨c,rfl⟩:=b;exact PySem.EqMixed.ne_str_int (bW I q (by simp))
  |str j=>obtain⟨c,rfl⟩:=b;exact ne_str (bW I q (congrArg not Dq))
  | _=>exact absurd (show false=true from hs) zv
 |byt i =>
  obtain⟨t,rfl⟩:=d
  cases y with
  |byt j=>obtain⟨c,rfl⟩:=b;exact PySem.W.ne_bytes (bW I q (congrArg not Dr))
  | _=>exact absurd (show false=true from hs) zv
 | _=>cases y<;>exact absurd (show false=true from hs) zv
def QT:OpR X (compareOp .Lt) (rI0 λi j=>.bl (decide (i<j))):=wj λ_ _ _ _ _ _ _ q=>lt_int q
def QV:OpR X (compareOp .LtE) (rI0 λi j=>.bl (decide (i<=j))):=wj λ_ _ _ _ _ _ _ q=>le_int q
def QW:OpR X (compareOp .Gt) (rI0 λi j=>.bl (decide (j<i))):=wj λ_ _ _ _ _ _ _ q=>gt_int q
def QX:OpR X (compareOp .In) (λx y H Q=>∃i j,x=.str i/\y=.str j/\Q (.bl (!(Builtin.Str.occurrences j i 0 j.length 1).isEmpty)) H):=by
 intro pins s σ H x y v u Q I c b h;obtain⟨i,j,rfl,rfl,q⟩:=h;obtain⟨t,rfl⟩:=c;obtain⟨d,rfl⟩:=b;exact in_str (bW I q rfl)
def m5(b:Expr)  (h:op≠.In:=by decide)(h2:op≠.NotIn:=by decide):behindInMarks op b=false:=by
 have d:(op == CmpOp.In)=false:=by cases op<;>first | rfl | exact absurd rfl h
 have c:(op == CmpOp.NotIn)=false:=by cases op<;>first | rfl | exact absurd rfl h2
 cases b<;>simp[behindInMarks,d,c]
def QZ   (j:OpR X (compareOp op) r)(C:PE X a J)(hb:PE X b G)(m:behindInMarks op b=false):PE X (.Compare a [op] [b] L) (tOp r J G):=by
 intro pins s σ H Q I h;exact wpAny_Compare1 (wg C hb I h λv u c x y F E f d q=>j pins c σ F x y v u Q E f d q) m
def sr(t:TE):TT:=λσ H Q=>t σ H λx b=>∃k,x=.bl k/\Q k b
def Dt   (d:OpR X (compareOp op) r)(j:PE X a q)(hb:PE X b m)(f:behindInMarks op b=false):PT X (.Compare a [op] [b] C) (sr (tOp r q m)):=by
 intro pins s σ H Q I h
 refine wpAny_isTrue_Compare1 (thn (j _ s σ H _ I h) λv s1 ⟨x,H1,I1,r1,q1⟩=>thn (hb _ s1 σ H1 _ I1 q1) λu s2 ⟨y,H2,I2,r2,q2⟩ =>
  thn (d _ s2 σ H2 x y v u _ I2 r1 r2 q2) λc s3 ⟨z,H3,I3,r3,k,e,q3⟩=>?_) f
 subst e;cases r3;exact wpAny_truthy_bool ⟨H3,I3,q3⟩
def wz(r m:R2)(j f d:TE):TE:=λσ H Q=>j σ H λx C=>f σ C λy u=>r x y u λz b=>∃k,z=.bl k /\
 (if k=true then d σ b λc q=>m y c q Q else Q (.bl false) b)
def Q0   (j:OpR X (compareOp op) r)(f:OpR X (compareOp op') r')(C:PE X a ta)(hb:PE X b tb)(q:PE X c tc)
  (m:lastMarks [op,op'] [b,c]=false:=by with_unfolding_all rfl):PE X (.Compare a [op,op'] [b,c] pos) (wz r r' ta tb tc):=by
 intro pins s σ H Q I h
 refine Compare_chain (thn (C _ s σ H _ I h) λv s1 ⟨x,H1,I1,r1,q1⟩=>chain_link (thn (hb _ s1 σ H1 _ I1 q1) λu s2 ⟨y,H2,I2,r2,q2⟩ =>
  thn (j _ s2 σ H2 x y v u _ I2 r1 r2 q2) λd s3 ⟨z,H3,I3,r3,k,e,q3⟩=>?_)) m
 subst e;cases r3;refine wpAny_truthy_bool ?_
 cases k with
 |false=>exact ite_ff ⟨.bl _,H3,I3,rfl,q3⟩
 |true=>exact ite_tt (chain_last (thn (q _ s3 σ H3 _ I3 q3) λw' s4 ⟨z',H4,I4,r4,q4⟩=>f _ s4 σ H4 y z' u w' Q I4 r2 r4 q4))
def Q3   (m:OpR X (compareOp op) r)(f:OpR X (compareOp op') r')(E:PE X a ta)(hb:PE X b tb)(C:PE X c tc)
  (q:lastMarks [op,op'] [b,c]=false:=by with_unfolding_all rfl):PT X (.Compare a [op,op'] [b,c] pos) (sr (wz r r' ta tb tc)):=by
 intro pins s σ H Q I h
 refine isTrue_chain (thn (E _ s σ H _ I h) λv s1 ⟨x,H1,I1,r1,q1⟩=>test_link (thn (hb _ s1 σ H1 _ I1 q1) λu s2 ⟨y,H2,I2,r2,q2⟩ =>
  thn (m _ s2 σ H2 x y v u _ I2 r1 r2 q2) λd s3 ⟨z,H3,I3,r3,k,e,q3⟩=>?_)) q
 subst e;cases r3;refine wpAny_truthy_bool ?_
 cases k with
 |false =>
  obtain⟨G,F,j⟩:=q3;cases F;exact ite_ff ⟨H3,I3,j⟩
 |true =>
  refine ite_tt (test_last (thn (C _ s3 σ H3 _ I3 q3) λw' s4 ⟨z',H4,I4,r4,q4⟩=>thn (f _ s4 σ H4 y z' u w' _ I4 r2 r4 q4) λd' s5 ⟨z2,H5,I5,r5,k2,e2,q5⟩=>?_));subst e2;cases r5;exact wpAny_truthy_bool ⟨H5,I5,q5⟩
def wA(K:PySem.W.Frag)(x:V)(H:Hp)(k:Bool):Prop :=
 match x with
 | .non=>k=false
 | .bl b=>k=b
 | .int i=>k=(i != 0)
 | .str y=>y.length<=sizeLine/\k=((y.length:Int) != 0)
 | .byt y=>y.size<=sizeLine/\k=((y.size:Int) != 0)
 | .ref p=>(∃c,SqL K H p c/\k = !c.isEmpty)\/(∃c,SqT K H p c/\k = !c.isEmpty)\/∃d,H p=some (.dK d)/\k = !d.isEmpty
 | _=>False
def Q4    (r:KV b vs):(!vs.isEmpty) = !b.isEmpty:=by
 cases r<;>rfl
def Dv   (r:aF xs b):(!b.toArray.isEmpty) = !xs.isEmpty:=by
 cases r<;>simp
def pJ:(sizeLine:Nat)<2 ^ 63:=by decide
def wB:QB X (λx H Q=>∃k,wA X.K x H k/\Q k H):=by
 intro pins s σ H x v Q I d h;obtain⟨k,e,q⟩:=h;have L:=pJ;have hs:sizeLine=16777216:=sizeLine_eq
 cases x with
 |non =>
  cases d;have c:k=false:=e;subst c;exact truthy_none ⟨H,I,q⟩
 |bl b =>
  cases d;have c:k=b:=e;subst c;exact wpAny_truthy_bool ⟨H,I,q⟩
 |int i =>
  obtain⟨t,rfl⟩:=d;have c:k=(i != 0):=e;subst c;exact PySem.P.truthy_int ⟨H,I,q⟩
 |str y =>
  obtain⟨t,rfl⟩:=d;obtain⟨G,c⟩ :=e;subst c;exact PySem.P.truthy_str (by omega) ⟨H,I.tok _,q⟩
 |byt y =>
  obtain⟨t,rfl⟩:=d;obtain⟨G,c⟩ :=e;subst c;exact PySem.W.truthy_bytes (by omega) ⟨H,I.tok _,q⟩
 |ref p =>
  cases d;have c :=e
  rcases c with⟨E,hx,c⟩ | ⟨E,hx,c⟩ | ⟨j,hx,c⟩
  ·subst c;obtain⟨u,r,f,C⟩:=I.list hx;have hlen:=r.length;exact wpAny_truthy_list f.isList (by simp only[zF];omega) ⟨H,I.tok _,by rw[Dv r];exact q⟩
  ·subst c;obtain⟨u,r,f,C⟩:=I.tuple hx;have hlen:=r.length;exact truthy_tuple f (by simp only[zF];omega) ⟨H,I.tok _,by rw[Dv r];exact q⟩
  ·subst c;obtain⟨C,J,F,r,m⟩ :=I.hok p _ hx;have hlen:j.length=F.length:=Paired.length r;exact wpAny_truthy_dict J m (by omega) ⟨H,I.tok _,by rw[Q4 r];exact q⟩
 | _=>exact(show False from e).elim
def Q5(d:PE X a f)(c:∀whole,isTrue a X.env whole=(do let v <-whole;standAt a.pos;holding [v] (truthy v))):
  PT X a (λσ H Q=>f σ H λx b=>∃k,wA X.K x b k/\Q k b):=by
 intro pins s σ H Q I h;exact isTrue_plain (thn (d pins s σ H _ I h) λv s1 ⟨x,H1,I1,r1,q1⟩=>wB pins s1 σ H1 x v Q I1 r1 q1) (c _)
def Q6:OpR X (binaryOp .Add) (λx y H Q=>∃i j,x=.str i/\y=.str j/\i.length+j.length<=sizeLine/\Q (.str (i++j)) H):=by
 intro pins s σ H x y v u Q I d c h;obtain⟨i,j,rfl,rfl,f,q⟩:=h;obtain⟨t,rfl⟩:=d;obtain⟨b,rfl⟩:=c
 exact add_str λb tk=>⟨.str _,H,I.tok _,⟨_,rfl⟩,q⟩
def vals1   (r:aF [x] us):∃u,us=[u]/\RelV x u:=by
 cases r with
 |cons c b=>cases b;exact⟨_,rfl,c⟩
def vals2   (r:aF [x,y] us):∃u b,us=[u,b]/\RelV x u/\RelV y b:=by
 cases r with
 |cons r1 r2 =>
  cases r2 with
  |cons d c=>cases c;exact⟨_,_,rfl,r1,d⟩
def Q7:fK X (.type "str") (λxs H Q=>∃i,xs=[.int i]/\i.natAbs.log2<1920/\Q (.str (toString i)) H):=by
 intro pins s σ H xs c Q I r h;obtain⟨i,rfl,b,q⟩:=h;obtain⟨u,rfl,t,rfl⟩:=vals1 r;exact PySem.P.str_of_int b ⟨.str _,H,I.tok _,⟨_,rfl⟩,q⟩
def Q8(K:PySem.W.Frag)(x:V)(H:Hp)(n:Nat):Prop :=
 match x with
 | .str y=>y.length<=sizeLine/\n=y.length
 | .byt y=>y.size<=sizeLine/\n=y.size
 | .ref p=>(∃b,SqL K H p b/\n=b.length)\/∃b,SqT K H p b/\n=b.length
 | _=>False
def call_len:fK X (.builtin "len") (λxs H Q=>∃x n,xs=[x]/\Q8 X.K x H n/\Q (.int n) H):=by
 intro pins s σ H xs E Q I r h;obtain⟨x,n,rfl,e,q⟩:=h;obtain⟨u,rfl,c⟩:=vals1 r;have hs :=sizeLine_eq
 cases x with
 |str y =>
  obtain⟨t,rfl⟩:=c;obtain⟨C,b⟩ :=e;subst b;exact len_str (by omega) ⟨.int _,H,I.tok _,⟨_,rfl⟩,q⟩
 |byt y =>
  obtain⟨t,rfl⟩:=c;obtain⟨C,b⟩ :=e;subst b;exact PySem.W.len_bytes (by omega) ⟨.int _,H,I.tok _,⟨_,rfl⟩,q⟩
 |ref p =>
  cases c;have b :=e
  rcases b with⟨xs,hx,b⟩ | ⟨xs,hx,b⟩
  ·subst b;obtain⟨j,d,f,m⟩:=I.list hx;have hlen:=d.length;exact Calls.call_len_list f.isList (by simp  ;omega) ⟨.int _,H,I.tok _,⟨_,by simp only[zF];rw[hlen]⟩,q⟩
  ·subst b;obtain⟨j,d,f,m⟩:=I.tuple hx;have hlen:=d.length;exact len_tuple f (by simp  ;omega) ⟨.int _,H,I.tok _,⟨_,by simp only[zF];rw[hlen]⟩,q⟩
 | _=>exact(e).elim
structure lN(h:Heap)(x dx C:Addr)(mA:Str->Option Value):Prop where
 obj:h.get? x=some (PySem.W.instObj C dx)
 ns:h.Ns1 dx mA
 ne:dx≠x
def Q9{h:Heap}   (n:h.Ns1 E C):∃c,h.get? E=some c/\∀name,PySem.W.lookIn name c=some (C name):=by
 obtain⟨o,d,x,j,hd,u,_,m⟩:=n;refine⟨o,j,λname=>?_⟩;have e:=m name;unfold nsFind findBy at e;rw[<-Array.find?_toList] at e;unfold PySem.W.lookIn;rw[hd]
 dsimp
 split
 ·rename_i y q;rw[q] at e;exact congrArg _ e
 ·rename_i q;rw[q] at e
  have a:d.toList.any (·.refKey)=false:=by
   rw[List.any_eq_false];intro y f;obtain⟨z,t,b⟩:=u y (Array.mem_toList_iff.mp f);simp[DictEntry.refKey,b]
  have a':¬d.toList.any (·.refKey)=true:=by rw[a];exact zv
  rw[if_neg a'];exact congrArg _ e
def lN.look    (I:lN h x d C c):∃b,PySem.W.InstAt h x (PySem.W.instObj C d) C (some b)/\∀name,PySem.W.lookIn name b=some (c name):=
 let ⟨b,ho,hl⟩:=Q9 I.ns
 ⟨b,⟨I.obj,rfl,rfl,ho⟩,hl⟩
def Ra{K:PySem.W.Frag}   (X:K.In s.heap)(I:lN s.heap x u C q)(f:PySem.W.plainGet K C name=true)(d:PySem.W.hasDictIn K C=true)
  (j:PySem.W.findIn K (.ref C) name=some none) (hv:q name=some v) (b:PySem.W.handedIn v=true) (h:Q v {s with toks:=s.toks+1}):
  wpAny (model prog w) A (getAttr (.ref x) name expr) Q E s:=by
 obtain⟨m,J,c⟩:=I.look;exact PySem.W.get_value X J (PySem.W.plainGet_of f).1 (PySem.W.findObj_own d j rfl (by rw[c,hv])) b h
def Rb{K:PySem.W.Frag}   (X:K.In s.heap)(I:lN s.heap x u C q)(b:PySem.W.plainGet K C name=true)
  (m:PySem.W.findIn K (.ref C) name=some (some (.ref f))) (d:PySem.W.isFn K (.ref f)=true) (hv:q name=none) (h:Q (.ref f,[.ref x]) s):
  wpAny (model prog w) A (getMethod (.ref x) name pl) Q E s:=by
 obtain⟨c,J,j⟩:=I.look;exact PySem.W.method_fn X J (PySem.W.plainGet_of b).1 (PySem.W.plainGet_of b).2 m (beq_iff_eq.mp d) (by show(PySem.W.lookIn _ c).map _=some _;rw[j,hv];rfl) h
def Rc{K:PySem.W.Frag}   (X:K.In s.heap)(I:lN s.heap x dx C mA)
  (hs:PySem.W.findIn K (.ref C) "__setattr__" = some (some (.builtin "object.__setattr__"))) (G:PySem.W.plainOver K C=true) (F:PySem.W.takerIn K C name=some none) (L:PySem.W.hasDictIn K C=true)
  (u:PySem.Within mA ns) (hsz:ns.length<=sizeLine)
  (h:∀h',lN h' x dx C (λy=>if y=name then some v else mA y)->Heap.SameBut dx s.heap h'->Q () {s with heap:=h',toks:=s.toks+2}):
  wpAny (model prog w) A (setAttr (.ref x) name v) Q E s:=by
 obtain⟨T,J,Y⟩:=I.look;refine PySem.W.set_plain X J hs (PySem.W.osa_open X J G F λb=>?_);obtain⟨Z,O,m⟩:=PySem.W.any_some L;have hx :=I.obj;refine za (zb (za (za (wpAny_loadPart hx (za (PySem.W.Looks.here (PySem.W.looks_clsIn X O) ?_))))));rw[m];refine zb (za (zb (za ?_)))
 refine wpAny_nsSet1 I.ns λh' d c=>?_
 obtain⟨U,P,R,f,j,q⟩:=d.count (PySem.Within.cons _ v u);refine za (wpAny_lookBehind f (by rw[j];exact pastItsLine_dict (zG q (by rw[zz];omega))) ?_);exact zb (h _ ⟨(c.2 _ (Ne.symm I.ne)).trans I.obj,d,I.ne⟩ c)
def Rf{s:Shared}{K:PySem.W.Frag}    (X:K.In s.heap)(b:PySem.W.makesIn K C=true)
  (c:PySem.W.findIn K (.ref C) "__init__" = some (some (.ref f))) (j:PySem.W.typeIn K (.ref f)=some (.type "function"))
  (h:codeAny (model prog w) (A.under (.builtin "type.__call__" ⟨.ref C::vs,q⟩)) (.call (.ref f) ⟨.ref (s.heap.objs.size+1)::vs,q⟩) (PySem.W.InitBack (s.heap.objs.size+1) R)
   {s with heap:=(s.heap.push PySem.W.emptyDict).push (PySem.W.instObj C s.heap.objs.size)}):
  codeAny (model prog w) A (.call (.ref C) ⟨vs,q⟩) R s:=by
 obtain⟨m,g,d,t,os⟩:=s;exact PySem.W.make_core (PySem.W.makes_of X b) (PySem.W.looks_findIn X c) (λself=>PySem.W.bind_fn X self j) (.inl rfl) h
noncomputable def dB(f:Str)(v:V):List (Str×V)->List (Str×V)
 | []=>[(f,v)]
 | (g,x)::r=>if g=f then(g,v)::r else(g,x)::dB f v r
theorem Dw(f g:Str)(v:V):∀fs:List (Str×V),(dB f v fs).lookup g=if g=f then some v else fs.lookup g
 | []=>by
  show List.lookup g [(f,v)]=_
  by_cases h:g=f
  ·have b :=beq_iff_eq.mpr h;simp  [List.lookup,b,if_pos h]
  ·have b :=beq_eq_false_iff_ne.mpr h;simp  [List.lookup,b,if_neg h]
 | (k,x)::r=>by
  have d:=Dw f g v r;rw[show dB f v _=if k=f then(k,v)::r else(k,x)::dB f v r from rfl]
  by_cases c:k=f
  ·rw[if_pos c]
   by_cases h:g=k
   ·have b :=beq_iff_eq.mpr h;simp  [List.lookup,b,if_pos (h.trans c)]
   ·have b :=beq_eq_false_iff_ne.mpr h;simp  [List.lookup,b,if_neg λe:g=f=>h (e.trans c.symm)]
  ·rw[if_neg c]
   by_cases h:g=k
   ·have b :=beq_iff_eq.mpr h;simp  [List.lookup,b,if_neg λe =>c (h.symm.trans e)]
   ·have b :=beq_eq_false_iff_ne.mpr h;simp  [List.lookup,b];exact d
theorem wC(f:Str)(v:V):∀fs:List (Str×V),f∈(dB f v fs).map (·.1)/\∀g,g∈fs.map (·.1)->g∈(dB f v fs).map (·.1)
 | []=>⟨by simp[dB],λg h=>by simp at h⟩
 | (k,x)::r=>by
  obtain⟨d,c⟩:=wC f v r;rw[show dB f v _=if k=f then(k,v)::r else(k,x)::dB f v r from rfl]
  by_cases b:k=f
  ·subst b;exact⟨by simp,λg h=>by simpa using h⟩
  ·rw[if_neg b];refine⟨?_,λg h=>?_⟩
   ·exact zp _ d
   ·rcases zl.mp h with e | e
    ·exact zl.mpr (.inl e)
    ·exact zp _ (c g e)
theorem Dy(f:Str)(v:V):∀fs:List (Str×V),(dB f v fs).length<=fs.length+1
 | []=>by simp[dB]
 | (k,x)::r=>by
  have c:=Dy f v r;rw[show dB f v _=if k=f then(k,v)::r else(k,x)::dB f v r from rfl]
  by_cases b:k=f
  ·rw[if_pos b,zz,zz];omega
  ·rw[if_neg b,zz,zz];omega
def dH.some_of   (r:dH (some v) o):∃u,o=some u/\RelV v u:=by
 cases o with
 |none=>exact(show False from r).elim
 |some u=>exact⟨u,rfl,r⟩
def dH.none_of  (r:dH none o):o=none:=by
 cases o with
 |none=>rfl
 |some u=>exact(show False from r).elim
def Rg   (r:RelV v u):PySem.W.handedIn u=true:=by
 cases v with
 | non
 |bl b=>cases(r);rfl
 | int i
 | str x
 | byt b
 |flt b=>obtain⟨t,e⟩:=(r);cases e;rfl
 | ref a
 |ty n=>cases(r);rfl
def su(hok:HOk P w H h)(e:H a=some (.ins C c fs)):∃b,lN h a c C b/\(∀f,dH (fs.lookup f) (b f))/\PySem.Within b (fs.map (·.1))/\fs.length<=1000/\H c=some (.own a):=by
 obtain⟨d,z,ne,ob,b,n,r,q⟩:=(hok a _ e);exact⟨b,⟨ob,n,ne⟩,r,q,z,d⟩
structure Cls(K:PySem.W.Frag)(C:Addr):Prop where
 pg:PySem.W.plainGet K C Str.empty=true
 hd:PySem.W.hasDictIn K C=true
 po:PySem.W.plainOver K C=true
 sa:PySem.W.findIn K (.ref C) "__setattr__" = some (some (.builtin "object.__setattr__"))
def Cls.get{K:PySem.W.Frag}{C:Addr}(c:Cls K C)(f:Str):PySem.W.plainGet K C f=true:=c.pg
def lO(K:PySem.W.Frag)(C:Addr)(f:Str):Prop:=PySem.W.findIn K (.ref C) f=some none
def lO.taker{K:PySem.W.Frag}   (n:lO K C f):PySem.W.takerIn K C f=some none:=by
 unfold PySem.W.takerIn;rw[show PySem.W.findIn K (.ref C) f=some none from n];rfl
structure Con(K:PySem.W.Frag)(C:Addr)(f:Str)(v:V)(u:Value):Prop where
 at_:PySem.W.findIn K (.ref C) f=some (some u)
 rel:RelV v u
 get:PySem.W.specialIn K u "__get__" = some none
 cp:PySem.W.copiedNames.contains f=false
structure m6(K:PySem.W.Frag)(C:Addr)(m:Str)(f:Addr):Prop where
 at_:PySem.W.findIn K (.ref C) m=some (some (.ref f))
 fn:PySem.W.isFn K (.ref f)=true
 kp:PySem.W.keepIn K (.ref f)=true
def Rh{σ:St}   (I:Inv X x σ H s)(e:H a=some (.ins C y fs))(c:Cls X.K C)(n:lO X.K C f)(l:fs.lookup f=some v)
  (h:∀u d,Inv X x σ H d->RelV v u->Q u d):wpAny (model X.prog X.w) A (getAttr (.ref a) f b) Q E s:=by
 obtain⟨q,O,r,_⟩:=su I.hok e;obtain⟨u,m,j⟩:=dH.some_of (by rw[<-l];exact r f);exact Ra I.kIn O (c.get f) c.hd n m (Rg j) (h u _ (I.tok _) j)
def Dz{σ:St}     (I:Inv X f σ H s)(e:H a=some (.ins C j fs))(c:Cls X.K C)(k:m6 X.K C m g)(l:fs.lookup m=none)
  (h:Q (.ref g,[.ref a]) s):wpAny (model X.prog X.w) A (getMethod (.ref a) m pl) Q E s:=by
 obtain⟨d,O,r,_⟩:=su I.hok e;have b :=dH.none_of (by rw[<-l];exact r m);exact Rb I.kIn O (c.get m) k.at_ k.fn b h
def Ri{σ:St}    (I:Inv X W σ H s)(e:H a=some (.ins C Y fs))(c:Cls X.K C)(n:lO X.K C f)(U:fs.length<1000)(G:RelV y u)
  (h:∀m,Inv X W σ (upd H a (.ins C Y (dB f y fs))) m->Q () m):wpAny (model X.prog X.w) A (setAttr (.ref a) f u) Q E s:=by
 obtain⟨J,O,r,j,_,x⟩:=su I.hok e
 have L:(fs.map (·.1)).length<=sizeLine:=by rw[zd,sizeLine_eq];omega
 refine Rc I.kIn O c.sa c.po n.taker c.hd j L λT d F=>h _ ?_
 have hd:∃o,T.get? Y=some o:=let ⟨o,_,_,e',_⟩:=d.ns;⟨o,e'⟩;refine I.write (by rw[e];exact True.intro) (.inr x) (λb q R z=>(F.2 b R).trans z) hd ?_;refine⟨by rw[aH O.ne];exact x,?_,O.ne,d.obj,_,d.ns,λg=>?_,λg P=>?_⟩
 ·have:=Dy f y fs;omega
 ·rw[Dw]
  by_cases q:g=f
  ·rw[if_pos q,if_pos q];exact G
  ·rw[if_neg q,if_neg q];exact r g
 ·by_cases q:g=f
  ·rw[q];exact(wC f y fs).1
  ·refine(wC f y fs).2 g (j g λz=>P ?_);show(if g=f then some u else J g)=none;rw[if_neg q];exact z
def Inv.made{σ:St}(I:Inv X E σ H s):Inv X E σ (upd (upd H s.heap.objs.size (.own (s.heap.objs.size+1))) (s.heap.objs.size+1) (.ins C s.heap.objs.size []))
  {s with heap:=(s.heap.push PySem.W.emptyDict).push (PySem.W.instObj C s.heap.objs.size)}:=by
 have c:(s.heap.push PySem.W.emptyDict).get? s.heap.objs.size=some PySem.W.emptyDict:=zy s.heap rfl
 have m:((s.heap.push PySem.W.emptyDict).push (PySem.W.instObj C s.heap.objs.size)).get? (s.heap.objs.size+1)=some (PySem.W.instObj C s.heap.objs.size):=by
  have:=zy (s.heap.push PySem.W.emptyDict) (o:=PySem.W.instObj C s.heap.objs.size) rfl
  rwa [Heap.size_push] at this
 have j:(s.heap.push PySem.W.emptyDict).Ns s.heap.objs.size (λ_=>none):=⟨PySem.W.emptyDict,#[],_,c,rfl,(λe f=>absurd f (by simp)),λ_=>rfl⟩;have x:=I.laid (a:=s.heap.objs.size) (o:=.own (s.heap.objs.size+1)) (h':=s.heap.push PySem.W.emptyDict) (t':=s.toks) (λb u q=>zo _ q) (zc _) ⟨_,c⟩;refine x.laid (a:=s.heap.objs.size+1) (o:=.ins C s.heap.objs.size []) (t':=s.toks) (λb u q=>zo _ q) (Nat.le_of_eq (Heap.size_push _ _)) ?_;have ne:s.heap.objs.size≠s.heap.objs.size+1:=zq (jb _);refine⟨by rw[aH ne,bz],Nat.zero_le _,ne,m,λ_=>none,(Heap.Ns1.of_empty j).at λo q=>zo _ q,λ_=>True.intro,λy d=>absurd rfl d⟩
def Rj         (hb:attributeBase e f env (eval e env)=eval e env)
  (h:wpAny (model prog w) A (eval e env) (λo b=>wpAny (model prog w) A (getAttr o f true) Q E b) E s):wpAny (model prog w) A (eval (.Attribute e f c) env) Q E s :=
 Attribute_any_ h (by rw[arm_eval_Attribute,hb])
def Rk(K:PySem.W.Frag)(c:TE)(f:Str):TE:=λσ H Q=>c σ H λx b=>∃a C d fs v,x=.ref a/\b a=some (.ins C d fs)/\Cls K C/\lO K C f/\fs.lookup f=some v/\Q v b
def Rm(K:PySem.W.Frag)(j d:TE)(f:Str):TS:=λD σ H=>d σ H λy m=>j σ m λx c=>∃a C b fs,x=.ref a/\c a=some (.ins C b fs)/\Cls K C/\lO K C f/\fs.length<1000 /\
 D.nx σ (upd c a (.ins C b (dB f y fs)))
def Rn(d:PE X e E)(hb:attributeBase e f X.env (eval e X.env)=eval e X.env):PE X (.Attribute e f F) (Rk X.K E f):=by
 intro pins s σ H Q I h;refine Rj hb (thn (d _ s σ H _ I h) λu s1 ⟨x,H1,I1,rx,a,C,dx,fs,v,ex,ea,c,n,l,q⟩=>?_);subst ex;obtain rfl :=rx
 exact Rh I1 ea c n l λm y j b=>⟨v,H1,j,b,q⟩
def Ro(b:PE X o J)(hv:PE X m G)(hs:swapsWith m (some (.Attribute o f E)) F.line X.env=pure false):PS X (.Assign [.Attribute o f E] m F) (Rm X.K J G f):=by
 intro pins s σ H D I h;refine plainObj_wpAny_Assign_Attribute (thn (hv _ s σ H _ I h) λu s1 ⟨y,H1,I1,ry,q⟩=>thn (b _ s1 σ H1 _ I1 q) λov s2 ⟨x,H2,I2,rx,a,C,dx,fs,ex,ea,c,n,l,q2⟩=>?_) hs;subst ex;obtain rfl :=rx
 exact Ri I2 ea c n l ry λj d=>⟨σ,_,d,q2⟩
inductive gf (K:PySem.W.Frag) (H:Hp):V->Value->Prop where
 | non:gf K H .non (.type "NoneType")
 | bl (x:Bool):gf K H (.bl x) (.type "bool")
 | int (i:Int):gf K H (.int i) (.type "int")
 | str (x:Str):gf K H (.str x) (.type "str")
 | flt (x:UInt64):gf K H (.flt x) (.type "float")
 | lst {a:Addr}{xs:List V} (e:H a=some (.lst xs)):gf K H (.ref a) (.type "list")
 | frz {a:Addr}{o:Obj}{xs:List V} (e:H a=some (.frz o (.lst xs))):gf K H (.ref a) (.type "list")
 | tup {a:Addr}{xs:List V} (e:H a=some (.tup xs)):gf K H (.ref a) (.type "tuple")
 | dK {a:Addr}{kvs:List (Key×V)} (e:H a=some (.dK kvs)):gf K H (.ref a) (.type "dict")
 | dT {a:Addr}{kvs:List (List Key×V)} (e:H a=some (.dT kvs)):gf K H (.ref a) (.type "dict")
 | ins {a C dx:Addr}{fs:List (Str×V)} (e:H a=some (.ins C dx fs)) (cl:Cls K C) (ha:PySem.W.findIn K (.ref C) "__class__" = some (some (.builtin "object.__class__")))
   (hn:PySem.W.specialIn K (.builtin "object.__class__") "__get__" = some (some (.builtin "getset_descriptor.__get__"))) (htk:PySem.W.takesIn K (.builtin "object.__class__")=some true)
   (hm:PySem.W.mroIn K C (.type "object")=some true):gf K H (.ref a) (.ref C)
def pK{σ:St}   (I:Inv X pins σ H s)(d:RelV x u)(ty:gf X.K H x t)(e:PySem.W.kitOne X.K t c=some b)(h:∀tk,Q (.bool b) {s with toks:=tk}):
  wpAny (model X.prog X.w) A (call (.builtin "isinstance") [u,c]) Q E s:=by
 cases ty with
 |non=>cases(show u=Value.none from d);exact PySem.W.kia_one PySem.W.kitx_none I.kIn True.intro e (λz=>nomatch z) h
 |bl y=>cases(show u=Value.bool y from d);exact PySem.W.kia_one PySem.W.kitx_bool I.kIn True.intro e (λz=>nomatch z) h
 |int i=>obtain⟨t,q⟩:=(show ∃t,u=Value.int i t from d);cases q;exact PySem.W.kia_one PySem.W.kitx_int I.kIn True.intro e (λz=>nomatch z) h
 |str y=>obtain⟨t,q⟩:=(show ∃t,u=Value.str y t from d);cases q;exact PySem.W.kia_one PySem.W.kitx_str I.kIn True.intro e (λz=>nomatch z) h
 |flt y=>obtain⟨t,q⟩:=(show ∃t,u=Value.float y t from d);cases q;exact PySem.W.kia_one PySem.W.kitx_float I.kIn True.intro e (λz=>nomatch z) h
 | @lst a f ea =>
  cases(show u=Value.ref a from d);obtain⟨_,_,n,_,h1⟩:=(show cg X.prog X.w H s.heap a (.lst f) from I.hok a _ ea);exact PySem.W.kia_one PySem.W.kitx_list I.kIn ⟨_,h1,rfl⟩ e (λz=>nomatch z) h
 | @frz a ob f ea =>
  cases(show u=Value.ref a from d);obtain⟨_,_,_,n,_,h1⟩:=(show cg X.prog X.w H s.heap a (.frz ob (.lst f)) from I.hok a _ ea);exact PySem.W.kia_one PySem.W.kitx_list I.kIn ⟨_,h1,rfl⟩ e (λz=>nomatch z) h
 | @tup a f ea =>
  cases(show u=Value.ref a from d);obtain⟨_,_,_,p⟩:=(show cg X.prog X.w H s.heap a (.tup f) from I.hok a _ ea);obtain⟨o,h1,h2,_⟩:=p;exact PySem.W.kia_one PySem.W.kitx_tuple I.kIn ⟨o,h1,h2⟩ e (λz=>nomatch z) h
 | @dK a kvs ea =>
  cases(show u=Value.ref a from d);obtain⟨_,_,F,_,p⟩:=(show cg X.prog X.w H s.heap a (.dK kvs) from I.hok a _ ea);obtain⟨o,j,m,h1,h2,_⟩:=p;exact PySem.W.kia_one PySem.W.kitx_dict I.kIn ⟨o,h1,h2.1⟩ e (λz=>nomatch z) h
 | @dT a kvs ea =>
  cases(show u=Value.ref a from d);obtain⟨_,_,f,_,o,j,m,h1,h2,_⟩:=(show cg X.prog X.w H s.heap a (.dT kvs) from I.hok a _ ea);exact PySem.W.kia_one PySem.W.kitx_dict I.kIn ⟨o,h1,h2.1⟩ e (λz=>nomatch z) h
 | @ins a C dx fs ea cl ha hn htk hm =>
  cases(show u=Value.ref a from d);obtain⟨L,O,_⟩:=su I.hok ea;obtain⟨G,J,_⟩:=O.look;exact PySem.W.kia_one (PySem.W.kitx_own (cl.get _) cl.hd ha hn htk hm) I.kIn J e (λz=>nomatch z) h
structure aV(k:Nat)(A:Around):Prop where
 hd:A.handled=none
 dp:A.depth+3 * k+5<recursionLimit
 un:A.units+16 * k+200<cLine
def aV.mono   (r:aV k A)(h:j<=k):aV j A:=⟨r.hd,by have:=r.dp;omega,by have:=r.un;omega⟩
def aV.deeper   (r:aV (k+1) A)(env:Env):aV k (A.deeper env):=
 ⟨r.hd,by have:=r.dp;show A.depth+1+3 * k+5<_;omega,by have:=r.un;show A.units+3+16 * k+200<_;omega⟩
def Rq{A:Around}   :(A.under (.builtin "type.__call__" ⟨.ref C::us,b⟩)).depth=A.depth+1:=by
 first | rfl | simp
def Rr{A:Around}   :(A.under (.builtin "type.__call__" ⟨.ref C::us,b⟩)).units=A.units+1:=by
 first | rfl | simp
def aV.make   (r:aV (k+1) A)(C:Addr)(us:List Value)(b:List (Str×Value)):aV k (A.under (.builtin "type.__call__" ⟨.ref C::us,b⟩)):=
 ⟨r.hd,by have:=r.dp;rw[Rq];omega,by have:=r.un;rw[Rr];omega⟩
def aV.depth   (r:aV k A):A.depth<recursionLimit:=by have:=r.dp;omega
def aV.units   (r:aV k A):A.units+64<cLine:=by have:=r.un;omega
def pM:TA:=λ_ H Q=>Q [] H
def Rt(d:TE)(c:TA):TA:=λσ H Q=>d σ H λx j=>c σ j λb f=>Q (x::b) f
def gh:PA X [] pM:=λ_ _ _ _ H Q I h=>Calls.spliced_nil ⟨[],H,I,.nil,h⟩
def fO(c:PE X e te)(b:PA X es t)(hs:starEach (e::es) X.env=(false,eval e X.env)::starEach es X.env:=by rfl):PA X (e::es) (Rt te t):=by
 intro d pins s σ H Q I h;rw[hs];show wpAny _ _ (spliced ((false,eval e _)::backTo _ _)) _ _ s;refine Calls.spliced_cons (thn (c _ s σ H _ I h) λu s1 ⟨x,H1,I1,r1,q1⟩=>?_)
 exact thn (b _ _ s1 σ H1 _ I1 q1) λus s2 ⟨xs,H2,I2,r2,q2⟩=>⟨x::xs,H2,I2,.cons r1 r2,q2⟩
def Ru(t:TA):TE:=λσ H Q=>t σ H λb c=>b.length<=sizeLine/\∀p,c p=none->Q (.ref p) (upd c p (.tup b))
def Rv(t:TA):TE:=λσ H Q=>t σ H λb c=>b.length<=sizeLine/\∀p,c p=none->Q (.ref p) (upd c p (.lst b))
def Rw  (h:PA X es t):PE X (.Tuple es j f) (Ru t):=by
 intro pins s σ H Q I c;refine wpAny_Tuple_spliced (thn (h _ _ s σ H _ I c) λus s1 ⟨xs,H1,I1,r,z,q⟩=>⟨by rw[<-r.length];exact z,?_⟩);have d :=I1.hok.fresh (zc _);refine⟨.ref _,upd H1 _ _,I1.laid (λb u e=>zo _ e) (zc _) ?_,rfl,q _ d⟩;exact⟨z,us,r,⟨_,zy _ rfl,rfl,_,rfl⟩⟩
def Rx(h:PA X es t):PE X (.List es f) (Rv t):=by
 intro pins s σ H Q I c;refine wpAny_List_spliced (thn (h _ _ s σ H _ I c) λus s1 ⟨xs,H1,I1,r,z,q⟩=>⟨by rw[<-r.length];exact z,?_⟩);have d :=I1.hok.fresh (zc _);refine⟨.ref _,upd H1 _ _,I1.laid (λb u e=>zo _ e) (zc _) ?_,rfl,q _ d⟩;exact⟨z,us,0,r,zy _ rfl⟩
abbrev Sp:=List V->Hp->VK->XK->Prop
abbrev CXT:=List Env->Hp->Shared->XK->Value->Shared->Prop
structure jy(P:Program)(w:World)(K:PySem.W.Frag)(mg:Str->Option Value)(base:Heap)(A:Around)(outer:List Env)(s:Shared)(H:Hp):Prop where
 frames:A.frames=some outer
 mod:Mod K mg base
 bs:∀b o,base.get? b=some o->s.heap.get? b=some o/\H b=none
 bsz:base.objs.size<=s.heap.objs.size
 funs:s.heap.FunFrames base outer
 frf:∀b∈frs outer,H b=none
 hok:HOk P w H s.heap
 bare:AllBare s.gens
inductive CE (outer:List Env) (P:Program) (w:World) (H:Hp) (s:Shared) (Q:VK) (u:Value) (s':Shared):Prop
 | mk:∀v H',s'.os=s.os->AllBare s'.gens->Un (frs outer) [] H H' s.heap s'.heap->HOk P w H' s'.heap->RelV v u->Q v H'->CE outer P w H s Q u s'
def CR(CX:CXT)(outer:List Env)(P:Program)(w:World)(H:Hp)(s:Shared)(Q:VK)(E:XK)(r:Result)(b:Shared):Prop :=
 match r with
 | .ok (.ret u)=>CE outer P w H s Q u b
 | .ok _=>False
 | .error e=>CX outer H s E e b
structure cG(P:Program)(w:World)(K:PySem.W.Frag)(mg:Str->Option Value)(base:Heap)(CX:CXT)(k:Nat)(f:Addr)(fd:FuncData)(ps:List Str)(sp:Sp):Prop where
 len:∀vs H Q E,sp vs H Q E->vs.length=ps.length
 run:∀(A:Around) (outer:List Env) (s:Shared) (H:Hp) (args:Args) (us:List Value) (vs:List V) (Q:VK) (E:XK),aV k A->jy P w K mg base A outer s H->BindsTo s fd args (ps.zip us)->aF vs us->sp vs H Q E ->
  codeAny (model P w) A (.call (.ref f) args) (CR CX outer P w H s Q E) s
def cG.imp   {K:PySem.W.Frag}         (F:cG P w K mg base CX k f fd ps sp)
  (h:∀vs H Q E,u vs H Q E->sp vs H Q E):cG P w K mg base CX k f fd ps u :=
 ⟨λvs H Q E q=>F.len vs H Q E (h _ _ _ _ q),λA outer s H args b vs Q E d j m c hs=>F.run A outer s H args b vs Q E d j m c (h _ _ _ _ hs)⟩
def jy.make   {K:PySem.W.Frag}       (e:jy P w K mg base A outer s H)(C:Addr)(us:List Value)(b:List (Str×Value)):
  jy P w K mg base (A.under (.builtin "type.__call__" ⟨.ref C::us,b⟩)) outer s H:=⟨by first | exact e.frames | (simpa [Around.under,Code.envs,Code.isFrame,pushEnvs] using e.frames),e.mod,e.bs,e.bsz,e.funs,e.frf,e.hok,e.bare⟩
def Inv.env0{σ:St}(I:Inv X b σ H s):jy X.prog X.w X.K X.mg X.base X.A X.stack s H :=
 ⟨I.ok.frames,I.ok.mod,I.bs,zG I.ok.bsz I.sz,I.stack,I.stkFree,I.hok,I.bare⟩
def Inv.after{σ:St}   (I:Inv X m σ H s)(h:CE X.stack X.prog X.w H s Q u x):EP X m σ Q u x:=by
 obtain⟨v,j,os,bare,un,hok,r,q⟩:=h;obtain⟨f,g,d,t,c⟩:=x;obtain rfl:c=s.os:=os;exact⟨v,j,I.call (h':=f) (g':=g) (d':=d) (t':=t) (ch:=[]) un hok bare (λb z=>absurd z (by simp)),r,q⟩
def pN(sp:Sp)(dvs:List V)(E:XK)(t:TA):TE:=λσ H Q=>t σ H λb c=>sp (b++dvs) c Q E
def wD(C:Addr)(m:Str)(sp:Sp)(dvs:List V)(E:XK)(d:TE)(t:TA):TE:=λσ H Q=>d σ H λx b=>∃a f fs,x=.ref a/\b a=some (.ins C f fs)/\fs.lookup m=none /\
 t σ b λc j=>sp (x::(c++dvs)) j Q E
def wG(C:Addr)(sp:Sp)(dvs:List V)(E:XK)(t:TA):TE:=λσ H Q=>t σ H λd c=>∀x b,c x=none->c b=none->b≠x ->
 sp (.ref x::(d++dvs)) (upd (upd c b (.own x)) x (.ins C b [])) (λv f=>v=.non/\Q (.ref x) f) E
def Binds(K:PySem.W.Frag)(fd:FuncData)(ps:List Str)(ds:List Value):Prop :=
 ∀(s:Shared) (b:List Value),K.In s.heap->(b++ds).length=ps.length->BindsTo s fd ⟨b,[]⟩ (ps.zip (b++ds))
def Binds.all{K:PySem.W.Frag}   (h:∀us:List Value,us.length=ps.length->bindArgs fd ⟨us,[]⟩=pure (ps.zip us)):Binds K fd ps []:=λs us _ b=>by
 rw[zJ] at b ⊢;exact .of_eq (h us b)
def jz(CX:CXT)(X:Cx)(E:XK):Prop:=∀(pins:List (Addr×Obj)) (σ:St) (H:Hp) (s:Shared) (e:Value) (b:Shared),Inv X pins σ H s->CX X.stack H s E e b->X.xe e b
def sy  {σ:St}      (F:cG X.prog X.w X.K X.mg X.base CX k f fd ps sp)(j:aV k X.A)(hb:Binds X.K fd ps ds)(hd:aF dvs ds)(hx:jz CX X E)
  (I:Inv X pins σ H s) (r:aF vs us) (h:sp (vs++dvs) H Q E):wpAny (model X.prog X.w) X.A (call (.ref f) us) (EP X pins σ Q) X.xe s:=by
 have c:aF (vs++dvs) (us++ds):=r.append hd
 have m:(us++ds).length=ps.length:=by rw[<-c.length];exact F.len _ _ _ _ h
 refine wpAny_call (codeAny_mono (F.run X.A X.stack s H ⟨us,[]⟩ (us++ds) (vs++dvs) Q E j I.env0 (hb s us I.kIn m) c h) λr d b=>?_)
 cases r with
 |error e=>exact hx pins σ H s e d I b
 |ok fl =>
  cases fl with
  |ret u=>exact I.after b
  |next=>exact False.elim b
  |brk=>exact False.elim b
  |cont=>exact False.elim b
def Ry{p b:Pos}(F:cG X.prog X.w X.K X.mg X.base CX k f fd ps sp)(j:aV k X.A)(y:Gl X x)(m:X.mg x=some (.ref f))(u:PySem.W.keepIn X.K (.ref f)=true)(hb:Binds X.K fd ps ds)(hd:aF dvs ds)(hx:jz CX X E)
  (G:PA X (e::es) t) (d:(x == ("__debug__":Str))=false:=by decide) (C:starEach (e::es) X.env=(false,eval e X.env)::starEach es X.env:=by rfl) (c:(backTo b (starEach es X.env)).any (·.1)=false:=by rfl):
  PE X (.Call (.Name x p) (e::es) [] b) (pN sp dvs E t):=by
 intro pins s σ H Q I h;refine wpAny_Call_Name_kw (pC I y m ?_ d);refine PySem.W.callWith_K I.ok.mod.kin u (thn (G _ _ s σ H _ I h) λus s1 ⟨vs,H1,I1,r,q⟩=>⟨I1.kIn,?_⟩) C c;exact sy F j hb hd hx I1 r q
def Rz(F:cG X.prog X.w X.K X.mg X.base CX k f fd ps sp)(c:aV k X.A)(m:Gl X x)(d:X.mg x=some (.ref f))(j:PySem.W.keepIn X.K (.ref f)=true)(hb:Binds X.K fd ps ds)(hd:aF dvs ds)(hx:jz CX X E)
  (b:(x == ("__debug__":Str))=false:=by decide):PE X (.Call (.Name x p) [] [] pos) (pN sp dvs E pM):=by
 intro pins s σ H Q I h;refine wpAny_Call_Name_kw (pC I m d ?_ b);exact PySem.W.callWith_K0 I.kIn j (sy F c hb hd hx I .nil h)
def RB{b apos:Pos}{pl:Sem Bool}(L:PE X o P)(c:Cls X.K C)(y:m6 X.K C m f)(F:cG X.prog X.w X.K X.mg X.base CX k f fd ps sp)(J:aV k X.A)(hb:Binds X.K fd ps ds)(hd:aF dvs ds)(hx:jz CX X E)(O:PA X (e::es) t)
  (d:starEach (e::es) X.env=(false,eval e X.env)::starEach es X.env:=by rfl) (j:(backTo b (starEach es X.env)).any (·.1)=false:=by rfl)
  (G:eval (.Call (.Attribute o m apos) (e::es) [] b) X.env=(do
   let ov <-eval o X.env
   standAt apos.atName
   let (f,first) <-holding [ov] (getMethod ov m pl)
   callWith b f first (backTo b (starEach (e::es) X.env)) (backToKw b (keywordEach [] X.env))):=by rfl):
  PE X (.Call (.Attribute o m apos) (e::es) [] b) (wD C m sp dvs E P t):=by
 intro pins s σ H Q I h;refine PySem.W.methodCall_KW (pl:=pl) (thn (L pins s σ H _ I h) λu s1 ⟨x,H1,I1,rx,a,dx,fs,ex,ea,l,q⟩=>?_) G;subst ex;obtain rfl:u=Value.ref a:=rx;refine Dz I1 ea c y l ?_;refine PySem.W.callWith_K (first:=[.ref a]) (h₀:=X.base) I.ok.mod.kin y.kp (thn (O b pins s1 σ H1 _ I1 q) λus s2 ⟨vs,H2,I2,r,q2⟩=>⟨I2.kIn,?_⟩) d j;exact sy (us:=.ref a::us) (vs:=.ref a::vs) F J hb hd hx I2 (.cons rfl r) q2
def RC  (y:PE X o L)(c:Cls X.K C)(b:m6 X.K C m f)(F:cG X.prog X.w X.K X.mg X.base CX k f fd ps sp)(j:aV k X.A)(hb:Binds X.K fd ps ds)(hd:aF dvs ds)(hx:jz CX X E)
  (d:eval (.Call (.Attribute o m J) [] [] G) X.env=(do
   let ov <-eval o X.env
   standAt J.atName
   let (f,first) <-holding [ov] (getMethod ov m pl)
   callWith G f first (backTo G (starEach [] X.env)) (backToKw G (keywordEach [] X.env))):=by rfl):
  PE X (.Call (.Attribute o m J) [] [] G) (wD C m sp dvs E L pM):=by
 intro pins s σ H Q I h;refine PySem.W.methodCall_KW (pl:=pl) (thn (y pins s σ H _ I h) λu s1 ⟨x,H1,I1,rx,a,dx,fs,ex,ea,l,q⟩=>?_) d;subst ex;obtain rfl:u=Value.ref a:=rx;refine Dz I1 ea c b l ?_;exact PySem.W.callWith_K0 (first:=[.ref a]) I1.kIn b.kp (sy (us:=[.ref a]) (vs:=[.ref a]) F j hb hd hx I1 (.cons rfl .nil) q)
structure Mk(K:PySem.W.Frag)(C f:Addr):Prop where
 makes:PySem.W.makesIn K C=true
 init:PySem.W.findIn K (.ref C) "__init__" = some (some (.ref f))
 fn:PySem.W.isFn K (.ref f)=true
 kp:PySem.W.keepIn K (.ref C)=true
def DG  {σ:St}      (M:Mk X.K C f)(F:cG X.prog X.w X.K X.mg X.base CX k f fd ps sp)(J:aV (k+1) X.A)(hb:Binds X.K fd ps ds)(hd:aF dvs ds)
  (hx:jz CX X E) (I:Inv X pins σ H s) (r:aF vs us)
  (h:∀x c,H x=none->H c=none->c≠x->sp (.ref x::(vs++dvs)) (upd (upd H c (.own x)) x (.ins C c [])) (λv R=>v=.non/\Q (.ref x) R) E):
  wpAny (model X.prog X.w) X.A (call (.ref C) us) (EP X pins σ Q) X.xe s:=by
 have m:=h _ _ (I.hok.fresh (Nat.le_succ _)) (I.hok.fresh (zc _)) (zq (jb _));have d:=Inv.made (C:=C) I;have j:aF (V.ref (s.heap.objs.size+1)::(vs++dvs)) _:=.cons rfl (r.append hd)
 have L :=by
  have e:=j.length;rw[F.len _ _ _ _ m] at e;exact e.symm
 refine wpAny_call (Rf I.kIn M.makes M.init (beq_iff_eq.mp M.fn) (codeAny_mono (F.run _ _ _ _ _ _ _ _ E (J.make C us [])
  (d.env0.make C us []) (hb _ _ d.kIn L) j m) λr q b=>?_))
 cases r with
 |error e=>exact hx _ σ _ _ e q d b
 |ok fl =>
  cases fl with
  |ret u =>
   obtain⟨v,T,P,y,O,G⟩:=d.after b;subst O;exact⟨y,⟨V.ref _,T,P,rfl,G⟩⟩
  | next
  | brk
  |cont=>exact False.elim b
def DK{p b:Pos}(M:Mk X.K C f)(F:cG X.prog X.w X.K X.mg X.base CX k f fd ps sp)(j:aV (k+1) X.A)(u:Gl X x)(m:X.mg x=some (.ref C))(hb:Binds X.K fd ps ds)(hd:aF dvs ds)(hx:jz CX X E)
  (G:PA X (e::es) t) (d:(x == ("__debug__":Str))=false:=by decide) (y:starEach (e::es) X.env=(false,eval e X.env)::starEach es X.env:=by rfl) (c:(backTo b (starEach es X.env)).any (·.1)=false:=by rfl):
  PE X (.Call (.Name x p) (e::es) [] b) (wG C sp dvs E t):=by
 intro pins s σ H Q I h;refine wpAny_Call_Name_kw (pC I u m ?_ d);refine PySem.W.callWith_K I.ok.mod.kin M.kp (thn (G _ _ s σ H _ I h) λus s1 ⟨vs,H1,I1,r,q⟩=>⟨I1.kIn,?_⟩) y c;exact DG M F j hb hd hx I1 r q
def RD(M:Mk X.K C f)(F:cG X.prog X.w X.K X.mg X.base CX k f fd ps sp)(c:aV (k+1) X.A)(j:Gl X x)(d:X.mg x=some (.ref C))(hb:Binds X.K fd ps ds)(hd:aF dvs ds)(hx:jz CX X E)
  (b:(x == ("__debug__":Str))=false:=by decide):PE X (.Call (.Name x p) [] [] pos) (wG C sp dvs E pM):=by
 intro pins s σ H Q I h;refine wpAny_Call_Name_kw (pC I j d ?_ b);exact PySem.W.callWith_K0 I.kIn M.kp (DG M F c hb hd hx I .nil h)
structure QDz(K:PySem.W.Frag)(fd:FuncData)(ps ks:List Str)(g:List Value->List Value->List Value)(gV:List V->List V->List V):Prop where
 to:∀(s:Shared) (us ws:List Value),K.In s.heap->(g us ws).length=ps.length->BindsTo s fd ⟨us,ks.zip ws⟩ (ps.zip (g us ws))
 rel:∀{vs:List V}{us:List Value}{zs:List V}{ws:List Value},aF vs us->aF zs ws->aF (gV vs zs) (g us ws)
structure gj(N P:List Str)(sc:Scope):Prop where
 kind:sc.kind=.function
 co:sc.isCoroutine=false
 gen:sc.isGenerator=false
 nd:N.Nodup
 pre:N.take P.length=P
 par:∀x∈P,sc.names.lookup x=some .local\/sc.names.lookup x=some .cell
 nofree:∀y∈sc.names,y.2≠.free
theorem DN{kindOf:Str->Option NameKind} :∀{binds:List (Str×Value)}{m:Str->Option Value},(∀v,(x,v)∉binds)->bindL kindOf binds m x=m x
 | [],_,_=>rfl
 | (n,v)::r,m,h=>by
  unfold bindL;rw[DN λw b=>h w (zp _ b)]
  split
  ·have:x≠n:=by rintro rfl;exact h v ze
   simp[this]
  ·rfl
theorem DP{kindOf:Str->Option NameKind} :∀{binds:List (Str×Value)}{m:Str->Option Value},(∀v,(x,v)∉binds)->bindC kindOf binds m x=m x
 | [],_,_=>rfl
 | (n,v)::r,m,h=>by
  unfold bindC;rw[DP λw b=>h w (zp _ b)]
  split
  ·rfl
  ·have:x≠n:=by rintro rfl;exact h v ze
   simp[this]
theorem DQ{kindOf:Str->Option NameKind}{x:Str}{v:Value}:∀{P:List Str}{vs:List Value}{i:Nat}{m:Str->Option Value},P.Nodup->P[i]?=some x->vs[i]?=some v->kindOf x=some .local ->
  bindL kindOf (P.zip vs) m x=some v
 | [],_,_,_,_,h,_,_=>by simp at h
 | _::_,[],_,_,_,_,h,_=>by simp at h
 |p::P,w::vs,0,m,nd,h1,h2,hk=>by
  simp at h1 h2;subst h1;subst h2
  show bindL _ ((p,w)::P.zip vs) m p=_;unfold bindL;rw[DN λv b=>(List.nodup_cons.mp nd).1 (List.of_mem_zip b).1,if_pos hk];simp
 |p::P,w::vs,i+1,m,nd,h1,h2,hk=>by
  unfold bindL;exact DQ (List.nodup_cons.mp nd).2 (by simpa ) (by simpa ) hk
theorem DR{kindOf:Str->Option NameKind}{x:Str}{v:Value}:∀{P:List Str}{vs:List Value}{i:Nat}{m:Str->Option Value},P.Nodup->P[i]?=some x->vs[i]?=some v->kindOf x≠some .local ->
  bindC kindOf (P.zip vs) m x=some v
 | [],_,_,_,_,h,_,_=>by simp at h
 | _::_,[],_,_,_,_,h,_=>by simp at h
 |p::P,w::vs,0,m,nd,h1,h2,hk=>by
  simp at h1 h2;subst h1;subst h2
  show bindC _ ((p,w)::P.zip vs) m p=_;unfold bindC;rw[DP λv b=>(List.nodup_cons.mp nd).1 (List.of_mem_zip b).1,if_neg hk];simp
 |p::P,w::vs,i+1,m,nd,h1,h2,hk=>by
  unfold bindC;exact DR (List.nodup_cons.mp nd).2 (by simpa ) (by simpa ) hk
noncomputable def start(N:List Str)(vs:List V):St:=vs.map some++List.replicate (N.length - vs.length) none
noncomputable def gk(CX:CXT)(P:Program)(w:World)(K:PySem.W.Frag)(mg:Str->Option Value)(base:Heap)(N:List Str)(qual:Str)(scope:Scope)(f:Addr)(cd:Value)(A:Around)(outer:List Env)(s:Shared)(H:Hp)(E:XK):Cx where
 prog:=P
 w:=w
 K:=K
 mg:=mg
 base:=base
 A:=A.deeper (envOfC qual scope s.heap.objs.size f cd)
 N:=N
 s₀:=s
 H₀:=H
 env:=envOfC qual scope s.heap.objs.size f cd
 outer:=outer
 stack:=envOfC qual scope s.heap.objs.size f cd::outer
 ex:=[]
 calm:=true
 fn:=λ_=>true
 pn:=[]
 xe:=λe s'=>wpAny (model P w) (A.deeper (envOfC qual scope s.heap.objs.size f cd)) (leaving (envOfC qual scope s.heap.objs.size f cd) e) (λ_ s''=>CX outer H s E e s'') (λe' s''=>CX outer H s E e' s'') s'
def DW{b:Scope}   (h:b.names.lookup x=some .cell):∃c,(cellsFrom n b.names []).lookup x=some c:=by
 have q:=PySem.W.cellsFrom_some _ n [] (.inl h);exact Option.isSome_iff_exists.mp q
def RG    {K:PySem.W.Frag}
  (S:gj N ps scope) (hd:A.handled=none) (d:jy P w K mg base A outer s H) (R:vs.length=ps.length) (r:aF vs us)
  (x:InCallC s s.heap.objs.size (bindL (envOfC T scope s.heap.objs.size f U).kindOf (ps.zip us) λ_=>none) (cellsFrom (s.heap.objs.size+1) scope.names []) (bindC (envOfC T scope s.heap.objs.size f U).kindOf (ps.zip us) λ_=>none) X):
  Inv (gk CX P w K mg base N T scope f U A outer s H E) [] (start N vs) H X:=by
 have Q :=by have:=congrArg List.length S.pre;rw[List.length_take] at this;omega
 obtain⟨h1,tk,rfl,J⟩:=x.done
 have j:∀b ,b∉(gk CX P w K mg base N T scope f U A outer s H E).ex:=λb z=>absurd (show b∈[] from z) (by simp)
 refine⟨⟨d.mod,S.kind,rfl,rfl,zc _,λy z c h1 h2=>?_,λy m=>?_,λy c _ h=>?_,λ_=>hd,Around.frames_deeper d.frames,.inr ⟨rfl,rfl⟩,λb z=>absurd z (j b),d.bs,d.bsz,λb _ _=>j b,λb z=>absurd z (j b),d.funs,d.frf⟩,
  rfl,d.bare,Un.kept J,⟨_,x.toInCall.ns,λi y v h1 h2 h3=>?_⟩,λy c h=>⟨_,x.cell y c h⟩,d.hok.fresh (zc _),λy c h=>?_,λp C=>absurd (show p∈[] from C) (by simp),d.hok.kept J,?_⟩
 ·exact name_of_addr x.apart (PySem.mem_of_lookup h1) (PySem.mem_of_lookup h2)
 ·rcases m with m | m
  ·exact DW m
  ·exact absurd rfl (S.nofree _ (PySem.mem_of_lookup m))
 ·exact Nat.le_of_lt (x.above y c (PySem.mem_of_lookup h))
 ·have G:i<vs.length:=by
   unfold start at h2
   by_cases G:i<vs.length
   ·exact G
   ·rw[zK (by simpa using G)] at h2;rw[List.getElem?_replicate] at h2
    split at h2<;>cases h2
  have O:vs[i]?=some v:=by
   unfold start at h2;rw[zD (by simpa ),zE] at h2
   cases e:vs[i]? with
   |none=>rw[e] at h2;cases h2
   |some a=>rw[e] at h2;cases h2;rfl
  obtain⟨u,I,L⟩:=r.get O
  have C:ps[i]?=some y:=by
   rw[<-S.pre,List.getElem?_take_of_lt (by omega)];exact h1
  have F:ps.Nodup:=by rw[<-S.pre];exact S.nd.sublist (List.take_sublist _ _)
  refine⟨u,L,?_⟩
  rcases S.par y (zL C) with k | k
  ·exact .inl ⟨k,DQ F C I k⟩
  ·obtain⟨c,e⟩:=DW k;refine .inr ⟨.inl k,c,e,?_⟩;have q:=x.cell y c e;rw[DR F C I (by show scope.names.lookup y≠_;rw[k];decide)] at q;exact q
 ·exact d.hok.fresh (Nat.le_of_lt (x.above y c (PySem.mem_of_lookup h)))
 ·unfold start;show _=N.length;rw[zf,zd,List.length_replicate];omega
def DX    {K:PySem.W.Frag}         {kV:Value}
       (lk:K.lookup f=some ⟨oc,od,.func (PySem.W.fnOf name qual params body scope dV kV doc pm an cdv ct),osl⟩) (T:PySem.W.codeIn K cdv qual=true) (S:gj N ps scope)
  (len:∀vs H Q E,sp vs H Q E->vs.length=ps.length)
  (m:∀(A:Around) (outer:List Env) (s:Shared) (H:Hp) (vs:List V) (Q:VK) (E:XK),aV k (A.deeper (envOfC qual scope s.heap.objs.size f cdv))->sp vs H Q E ->
   ∃t,PSs (gk CX P w K mg base N qual scope f cdv A outer s H E) body t/\t {nx:=λ_ d=>Q .non d,rt:=Q} (start N vs) H):
  cG P w K mg base CX (k+1) f (PySem.W.fnOf name qual params body scope dV kV doc pm an cdv ct) ps sp:=by
 refine⟨len,λA outer s H args Y vs Q E O C hb r F=>?_⟩;have hl:=len _ _ _ _ F
 have X:K.In s.heap:=C.mod.kin.keeps λb o e=>(C.bs b o e).1
 have R:s.heap.NoLimit:=C.mod.nolimit.keeps λb o e=>(C.bs b o e).1
 have j:∀y∈ps.zip Y,scope.names.lookup y.1=some .local\/(scope.names.lookup y.1=some .cell/\((cellsFrom (s.heap.objs.size+1) scope.names []).lookup y.1).isSome=true):=λ⟨n,v⟩ hy=>by
  rcases S.par n (List.of_mem_zip hy).1 with q | q
  ·exact .inl q
  ·exact .inr ⟨q,PySem.W.cellsFrom_some _ _ _ (.inl q)⟩
 refine codeAny_call_function O.depth (X _ _ lk) rfl S.co S.gen rfl (PySem.W.codeRec_of X T) (hb _ _ _ _ ?_)
 refine wpAny_newFunctionEnv_cells S.kind j λenv he U x=>?_
 subst he;refine⟨R.keeps x.toInCall.keep,codeAny_func ?_⟩;obtain⟨t,Z,hq⟩:=m A outer s H vs Q E (O.deeper _) F;have I:Inv (gk CX P w K mg base N qual scope f cdv A outer s H E) [] (start N vs) H U:=RG S O.hd C hl r x
 refine zT (Z [] U (start N vs) H _ I hq) (λfl G hs=>?_) λe G hs=>hs
 have fin:∀{c:St}{d:Hp}{v:V}{u:Value},Inv (gk CX P w K mg base N qual scope f cdv A outer s H E) [] c d G->RelV v u->Q v d->CE outer P w H s Q u G :=
  λ{c d v u} J L q=>⟨v,d,J.os,J.bare,J.base,J.hok,L,q⟩
 cases fl with
 |ret u =>
  obtain⟨v,c,d,J,L,q⟩:=hs;exact fin J L q
 |next =>
  obtain⟨c,d,J,q⟩:=hs;exact fin (v:=V.non) (u:=Value.none) J rfl q
 |brk =>
  obtain⟨_,_,_,q⟩:=hs;exact False.elim q
 |cont =>
  obtain⟨_,_,_,q⟩:=hs;exact False.elim q
def tCB(r:List V->Hp->VK->Prop)(t:TA):TE:=λσ H Q=>t σ H λb c=>r b c Q
def wH{p b:Pos}{f:String}(y:fK X (.builtin f) r)(q:Gl X x)(m:X.mg x=none)(hv:bootBuiltins x=some (.builtin f))(C:PA X (e::es) t)(j:x≠"__name__":=by decide)(d:(x == ("__debug__":Str))=false:=by decide)
  (u:starEach (e::es) X.env=(false,eval e X.env)::starEach es X.env:=by rfl) (c:(backTo b (starEach es X.env)).any (·.1)=false:=by rfl):PE X (.Call (.Name x p) (e::es) [] b) (tCB r t):=by
 intro pins s σ H Q I h;refine wpAny_Call_Name_kw (j7 I q m hv ?_ j d);exact PyProof.Rows.callWith_builtin1 (thn (C b pins s σ H _ I h) λus s1 ⟨vs,H1,I1,r1,q1⟩=>y pins s1 σ H1 vs us Q I1 r1 q1) u c
def wI{p b:Pos}(u:fK X (.type T) r)(m:Gl X x)(j:X.mg x=none)(hv:bootBuiltins x=some (.type T))(y:PA X (e::es) t)(f:x≠"__name__":=by decide)(d:(x == ("__debug__":Str))=false:=by decide)
  (q:starEach (e::es) X.env=(false,eval e X.env)::starEach es X.env:=by rfl) (c:(backTo b (starEach es X.env)).any (·.1)=false:=by rfl):PE X (.Call (.Name x p) (e::es) [] b) (tCB r t):=by
 intro pins s σ H Q I h;refine wpAny_Call_Name_kw (j7 I m j hv ?_ f d);exact PyProof.Rows.callWith_type1 (thn (y b pins s σ H _ I h) λus s1 ⟨vs,H1,I1,r1,q1⟩=>u pins s1 σ H1 vs us Q I1 r1 q1) q c
end L2
namespace HT
open PySem PyProof.Rows
section
open PySem.SeqAt
open PySem.AutoSeq1 (wpAny_loadPart')
open PySem.MeetsSeq PySem.MeetsSeq2 PySem.MeetsSeq3
end
def cat_tup    (I:IsTup s.heap t vs.toArray)(hb:IsTup s.heap b J.toArray)(hv:vs≠[])
  (h1:J=[]->Q (.ref t) s) (h2:J≠[]->Q (.ref s.heap.objs.size) {s with heap:=s.heap.push {cls:=.type "tuple",data:=.seq (vs++J).toArray}})
  (hsz:vs.length+J.length<=sizeLine):wpAny (model prog w) A (binaryOp .Add (.ref t) (.ref b)) Q E s:=by
 obtain⟨⟨cls,C,data,sl⟩,u,y,n,hd⟩:=id I;obtain⟨⟨G,m,data2,d⟩,c,j,x,f⟩:=id hb;simp only at y hd j f;subst y hd j f
 have e:vs.toArray++J.toArray=(vs++J).toArray:=by simp
 by_cases q:J=[]
 ·exact concat_meets ⟨_,u,rfl⟩ ⟨_,c,rfl⟩ noFill_tuple_add seq_tuple_add PySem.F.slot_tuple_add PySem.F.entry_tuple_add (PySem.F.args_tuple_add_2 _ _)
   (tuple_addW1 t b vs.toArray J.toArray n x C m sl d (by simpa using hv) (by simp[q])) ⟨u,c,h1 q⟩
 ·refine concat_meets ⟨_,u,rfl⟩ ⟨_,c,rfl⟩ noFill_tuple_add seq_tuple_add PySem.F.slot_tuple_add PySem.F.entry_tuple_add (PySem.F.args_tuple_add_2 _ _)
   (tuple_addW2 t b vs.toArray J.toArray n x C m sl d (by simpa using hv) (by simpa using q) (by rw[zF,zF];exact hsz)) ⟨u,c,?_⟩
  rw[e];exact h2 q
def sIx(n d:Nat):Option Int->Nat
 |none=>d
 |some v=>if v<0 then(v+(n:Int)).toNat else min v.toNat n
def sIx_none(n d:Nat):sIx n d none=d:=rfl
def sIx_nat(n d k:Nat):sIx n d (some (k:Int))=min k n:=by
 show(if k<0 then k+(n:Int).toNat else min _ n)=min k n;rw[if_neg (by omega),Int.toNat_natCast]
def sIx_le(n d:Nat)(hd:d<=n)(o:Option Int):sIx n d o<=n:=by
 cases o with
 |none=>exact hd
 |some v =>
  show(if v<0 then(v+n).toNat else min _ n)<=n
  by_cases b:v<0
  ·rw[if_pos b];omega
  ·rw[if_neg b];exact Nat.min_le_right _ _
def DY(v:Int)(n d:Nat):(if v<0 then max (v+(n:Int)) 0 else min v (n:Int))=((sIx n d (some v):Nat):Int):=by
 show(if v<0 then max _ 0 else min v n)=(if v<0 then(v+(n:Int)).toNat else min v.toNat n)
 by_cases b:v<0
 ·simp only[if_pos b];omega
 ·simp  [if_neg b];omega
def RJ(b c:Option Int)(n:Nat):Builtin.Slice.sliceAdjust b c 1 (n:Int)=(((sIx n 0 b:Nat):Int),((sIx n n c:Nat):Int)):=by
 refine Prod.ext ?_ ?_
 ·cases b with
  |none=>rfl
  |some v=>exact DY v n 0
 ·cases c with
  |none=>rfl
  |some v=>exact DY v n n
def RK(i j:Nat):Builtin.Slice.slicePlaces (i:Int) (j:Int) 1=j - i:=by
 unfold Builtin.Slice.slicePlaces
 split<;>omega
def Ea    (p:IsPart v o)(h:Q o s):wpAny (model prog w) A (Builtin.Slice.slicePartIndex v) Q E s:=by
 cases p with
 |none=>exact slicePart_none h
 |int =>exact slicePart_int h
def sliceApplied_gen   {b:Option Int}{n:Nat}  (hs:s.heap.IsSliceOf sl vl q .none)(pl:IsPart vl b)(f:IsPart q m)
  (h:Q (((sIx n 0 b:Nat):Int),1,sIx n n m - sIx n 0 b) s):wpAny (model prog w) A (Builtin.Slice.sliceApplied (.ref sl) (pure (n:Int))) Q E s:=by
 obtain⟨os,c,j,d⟩:=id hs;refine za (za (wpAny_field c d rfl (za (wpAny_field c d rfl (za (wpAny_field c d rfl (zb ?_)))))));refine za (slicePart_none ?_);refine za (Ea pl (za (Ea f (za (zb ?_)))));show wpAny _ _ (match Builtin.Slice.sliceAdjust b m 1 n with | (b,m)=>pure (b,(1:Int),Builtin.Slice.slicePlaces b m 1)) _ _ s;rw[RJ ];show wpAny _ _ (pure _) _ _ s;rw[RK];exact zb h
def RL(xs:Array Value)(i k:Nat):((List.range k).filterMap λ(m:Nat)=>xs[((i:Int)+(m:Int) * 1).toNat]?).toArray=((xs.toList.drop i).take k).toArray:=by
 have e:(λ(m:Nat)=>xs[(i+(m:Int) * 1).toNat]?)=λm=>xs[i+m]?:=by
  funext m
  have:((i:Int)+m * 1).toNat=i+m:=by omega
  rw[this]
 rw[e]
 have:=pick_run xs i k
 rw[List.filterMap_map] at this
 have b:((λx=>xs[x]?) ∘ λx=>i+x)=λm=>xs[i+m]?:=rfl
 rw[b] at this;rw[this]
def getItem_tuple_cut    {b:Option Int}  (d:IsTup s.heap t items)(hs:s.heap.IsSliceOf sl vl J .none)(pl:IsPart vl b)(x:IsPart J I)
  (y:¬(sIx items.size 0 b=0/\sIx items.size items.size I=items.size))
  (h:Q (.ref s.heap.objs.size) {s with heap:=s.heap.push {cls:=.type "tuple",data:=.seq ((items.toList.drop (sIx items.size 0 b)).take (sIx items.size items.size I - sIx items.size 0 b)).toArray}})
  (hsz:items.size<=sizeLine):wpAny (model prog w) A (getItem (.ref t) (.ref sl)) Q E s:=by
 have c :=by
  show((items.toList.drop (sIx items.size 0 b)).take (sIx items.size items.size I - sIx items.size 0 b)).toArray.size<=sizeLine;rw[zF,List.length_take,List.length_drop,Array.length_toList];omega
 obtain⟨os,f,m,C⟩:=id hs;have u:s.TypeIs (.ref sl) "slice":=⟨os,f,m⟩;unfold getItem
 try with_reducible refine zP ?_
 refine za (wpAny_sequenceKey d.typeIs (by decide) ?_)
 refine za (wpAny_callSpecial?_slot d.typeIs PyProof.Rows.slot_tuple_getitem
  (wpAny_call_entry PyProof.Rows.slot_tuple_getitem d.typeIs entry_tuple_getitem ?_))
 show wpAny _ _ (Builtin.Tuple.tupleItemsOf (.ref t) >>= _) _ _ s;refine za (tupleItemsOf_ d ?_);refine za (wpAny_typeOf u ?_);refine za (sliceApplied_gen hs pl x ?_)
 have j:¬((((sIx items.size 0 b:Nat):Int) == 0&&(1:Int) == 1&&(sIx items.size items.size I - sIx items.size 0 b) == items.size)=true):=by
  intro q;rw[zx,zx] at q;have G :=eq_of_beq q.1.1;have F :=eq_of_beq q.2;exact y ⟨by omega,by omega⟩
 show wpAny _ _ (if(((sIx items.size 0 b:Nat):Int) == 0&&(1:Int) == 1&&(sIx items.size items.size I - sIx items.size 0 b) == items.size)=true then _ else _) _ _ s;rw[if_neg j,RL]
 first
  | exact za (wpAny_newObj_type (zb ⟨_,rfl,zb h⟩) c)
  | exact za
  | exact za
  | exact za
end HT
namespace L2
open PySem PySem.Spec PyProof.Rows
abbrev TO:=St->Hp->(Option Int->Hp->Prop)->Prop
def PO(X:Cx)(e:Option Expr)(t:TO):Prop :=
 ∀(pins:List (Addr×Obj)) (s:Shared) (σ:St) (H:Hp) (Q:Option Int->Hp->Prop),Inv X pins σ H s->t σ H Q ->
  wpAny (model X.prog X.w) X.A (evalPart e X.env) (λu c=>∃o b,Inv X pins σ b c/\IsPart u o/\Q o b) X.xe s
def RM:TO:=λ_ H Q=>Q none H
def RN(t:TE):TO:=λσ H Q=>t σ H λx b=>∃i,x=.int i/\Q (some i) b
def intsAre_of :∀{us:List Value},aF (ns.map V.int) us->IntsAre us ns:=by
 induction ns with
 |nil=>intro us r;cases r;exact .nil
 |cons n ns ih =>
  intro us r
  cases r with
  |cons r1 r2 =>
   obtain⟨t,e⟩:=r1;subst e;exact .cons n t (ih r2)
def RP:PO X none RM:=by
 intro pins s σ H Q I h;exact zb ⟨none,H,I,.none,h⟩
def RQ(h:PE X e te):PO X (some e) (RN te):=by
 intro pins s σ H Q I b
 refine thn (h _ s σ H _ I b) λu s1 ⟨x,H1,I1,r1,q1⟩=>?_
 obtain⟨i,rfl,q⟩:=q1;obtain⟨t,rfl⟩:=r1;exact⟨some i,H1,I1,.int i t,q⟩
def SlR(X:Cx)(r:V->Option Int->Option Int->Hp->VK->Prop):Prop :=
 ∀(pins:List (Addr×Obj)) (s:Shared) (σ:St) (H:Hp) (x:V) (v vl b:Value) (c d:Option Int) (sl:Addr) (Q:VK),Inv X pins σ H s->RelV x v->s.heap.IsSliceOf sl vl b .none->IsPart vl c->IsPart b d->r x c d H Q ->
  ∃T f,typeLookup (.type T) "__getitem__" = pure (some (.builtin f))/\s.TypeIs v T/\wpAny (model X.prog X.w) X.A (getItem v (.ref sl)) (EP X pins σ Q) X.xe s
def tSl(r:V->Option Int->Option Int->Hp->VK->Prop)(te:TE)(tl b:TO):TE:=λσ H Q=>te σ H λx f=>tl σ f λl d=>b σ d λu c=>r x l u c Q
def RT{c:Option Expr}  (j:SlR X r)(C:PE X e te)(m:PO X c tl)(d:PO X J L):PE X (.Subscript e (.Slice c J none O) P) (tSl r te tl L):=by
 intro pins s σ H Q I h;refine Subscript_ (thn (C pins s σ H _ I h) λv s1 ⟨x,H1,I1,r1,q1⟩=>?_);refine wpAny_Slice (thn (m pins s1 σ H1 _ I1 q1) λvl s2 ⟨l,H2,I2,pl,q2⟩=>thn (d pins s2 σ H2 _ I2 q2) λvu s3 ⟨u,H3,I3,pu,q3⟩=>?_);rw[evalPart_none];refine zb ?_
 have F:Inv X pins σ H3 {s3 with heap:=s3.heap.push {cls:=.type "slice",data:=.fields #[vl,vu,.none]}}:=I3.kept (t':=s3.toks) λb ob q=>zo _ q
 obtain⟨T,G,E,f,y⟩:=j pins {s3 with heap:=s3.heap.push {cls:=.type "slice",data:=.fields #[vl,vu,.none]}} σ H3 x v vl vu l u s3.heap.objs.size Q F r1 (Heap.IsSliceOf.new ..) pl pu q3;show wpAny (model X.prog X.w) X.A (subscriptTail e (.Slice c J none O) v (.ref s3.heap.objs.size)) (EP X pins σ Q) X.xe {s3 with heap:=s3.heap.push {cls:=.type "slice",data:=.fields #[vl,vu,.none]}};exact tail_any (ops:=[.ref s3.heap.objs.size,v]) f E y (by with_unfolding_all rfl)
def lQ(xs:List V)(b c:Option Int):List V:=(xs.drop (HT.sIx xs.length 0 b)).take (HT.sIx xs.length xs.length c - HT.sIx xs.length 0 b)
def Eb(xs:List V)(b c:Option Int):(lQ xs b c).length<=xs.length:=by
 unfold lQ;rw[List.length_take,List.length_drop];omega
def RV(K:PySem.W.Frag):V->Option Int->Option Int->Hp->VK->Prop:=λx c d H Q=>∃a b,x=.ref a/\SqT K H a b /\
 ¬(HT.sIx b.length 0 c=0/\HT.sIx b.length b.length d=b.length)/\∀p,H p=none->Q (.ref p) (upd H p (.tup (lQ b c d)))
def RX:SlR X (RV X.K):=by
 intro pins s σ H x v vl G C F sl Q I m hs y u h;obtain⟨a,d,rfl,hx,E,q⟩:=h;cases m;obtain⟨c,r,j,f⟩:=I.tuple hx
 have hlen:c.toArray.size=d.length:=by exact r.length.symm
 refine⟨"tuple",_,PyProof.Rows.slot_tuple_getitem.lookup,j.typeIs,?_⟩;refine HT.getItem_tuple_cut j hs y u (by rw[hlen];exact E) ?_ (by rw[hlen];exact f);rw[hlen];refine⟨.ref _,_,I.laid (λb ob q=>zo _ q) (zc _) ?_,rfl,q _ (I.hok.fresh (zc _))⟩;exact⟨zG (Eb d C F) f,_,(r.drop _).take _,IsTup.new _ _⟩
def RZ(K:PySem.W.Frag):R2:=λx y H Q=>∃a b d c,x=.ref a/\y=.ref b/\SqT K H a d/\SqT K H b c/\d≠[]/\d.length+c.length<=sizeLine /\
 (c=[]->Q (.ref a) H)/\(c≠[]->∀p,H p=none->Q (.ref p) (upd H p (.tup (d++c))))
def aF.nil_iff   (r:aF xs us):us=[]↔xs=[]:=by
 cases r with
 |nil=>simp
 |cons _ _=>simp
def R0:OpR X (binaryOp .Add) (RZ X.K):=by
 intro pins s σ H x y v u Q I C m h;obtain⟨a,b,T,R,rfl,rfl,O,L,hx,f,F,E⟩:=h;cases C;cases m;obtain⟨P,d,J,_⟩:=I.tuple O;obtain⟨j,c,G,_⟩:=I.tuple L;refine HT.cat_tup J G (λz=>hx (d.nil_iff.mp z)) (λz=>⟨.ref a,H,I,rfl,F (c.nil_iff.mp z)⟩) (λz=>?_) (by rw[<-d.length,<-c.length];exact f);refine⟨.ref _,_,I.laid (λb ob q=>zo _ q) (zc _) ?_,rfl,E (λw=>z (c.nil_iff.mpr w)) _ (I.hok.fresh (zc _))⟩;exact⟨by rw[zf];exact f,_,d.append c,IsTup.new _ _⟩
def ixN(n:Nat)(i:Int):Option Nat:=if 0<=i then(if i<n then some i.toNat else none) else if -(n:Int)<=i then some (i+n).toNat else none
def atI{α:Type}(xs:List α)(i:Int):Option α:=(ixN xs.length i).bind λj=>xs[j]?
def Ec    (h:ixN n i=some j):seqIndex? i n=some j/\j<n/\-(n:Int)<=i/\i<n:=by
 unfold ixN at h
 by_cases h0:0<=i
 ·rw[if_pos h0] at h
  by_cases h1:i<n
  ·rw[if_pos h1] at h;have e :=zC h;exact⟨by rw[seqIndex_of h0 h1,e],by omega⟩
  ·rw[if_neg h1] at h;cases h
 ·rw[if_neg h0] at h
  by_cases h1:-n<=i
  ·rw[if_pos h1] at h;have e :=zC h;exact⟨by rw[seqIndex_neg (by omega) h1,e],by omega⟩
  ·rw[if_neg h1] at h;cases h
def wJ     (h:atI xs i=some v):∃j,seqIndex? i xs.length=some j/\xs[j]?=some v/\j<xs.length/\-(xs.length:Int)<=i/\i<xs.length:=by
 unfold atI at h
 cases e:ixN _ i with
 |none=>rw[e] at h;cases h
 |some j =>
  rw[e] at h;obtain⟨h1,h2,h3,h4⟩:=Ec e;exact⟨j,h1,h,h2,h3,h4⟩
def sE(b:Expr):Prop:=∀o i,subscripted b false o i=operate [o,i] (getItem o i)
def IxR(X:Cx)(r:R2):Prop :=
 ∀(value slice:Expr) (pins:List (Addr×Obj)) (s:Shared) (σ:St) (H:Hp) (x y:V) (v u:Value) (Q:VK),Inv X pins σ H s->RelV x v->RelV y u->r x y H Q ->
  subscripted slice false v u=operate [v,u] (getItem v u)->wpAny (model X.prog X.w) X.A (subscriptTail value slice v u) (EP X pins σ Q) X.xe s
def MtR(X:Cx)(d:String)(r:V->List V->Hp->VK->Prop):Prop :=
 ∀(pins:List (Addr×Obj)) (s:Shared) (σ:St) (H:Hp) (x:V) (b:List V) (v:Value) (c:List Value) (Q:VK),Inv X pins σ H s->RelV x v->aF b c->r x b H Q ->
  wpAny (model X.prog X.w) X.A (call (.builtin d) (v::c)) (EP X pins σ Q) X.xe s
def R1  (j:IxR X r)(m:PE X a G)(hb:PE X b F)(hs:sE b):PE X (.Subscript a b J) (tOp r G F):=by
 intro pins s σ H Q I h;exact Subscript_ (wg m hb I h λv u c x y E C f d q=>j a b pins c σ E x y v u Q C f d q (hs _ _))
def R3(K:PySem.W.Frag):R2:=λx y H Q=>∃p b i v,x=.ref p/\y=.int i/\SqL K H p b/\atI b i=some v/\Q v H
def R4(K:PySem.W.Frag):R2:=λx y H Q=>∃p b i v,x=.ref p/\y=.int i/\SqT K H p b/\atI b i=some v/\Q v H
def R5:R2:=λx y H Q=>∃z i c,x=.str z/\y=.int i/\z.length<=sizeLine/\atI z.cps.toList i=some c/\Q (.str ⟨#[c]⟩) H
def R6:IxR X (R3 X.K):=by
 intro value slice pins s σ H x y v u Q I C m h hs;obtain⟨p,L,i,z,rfl,rfl,E,G,q⟩:=h;cases C;obtain⟨t,rfl⟩:=m;obtain⟨f,r,b,O⟩:=I.list E;obtain⟨j,h1,h2,h3,h4,J⟩:=wJ G;obtain⟨w,R,d⟩:=r.get h2;have F:=r.length;have P:=pJ;have fin:EP X _ σ Q w s:=⟨z,H,I,d,q⟩
 by_cases h0:0<=i
 ·have c :=by
   rw[seqIndex_of h0 J] at h1;exact zC h1
  exact item_listR b.isList h0 (by omega) (by rw[c];simpa ) fin hs
 ·have c:(i+f.toArray.size).toNat=j:=by
   rw[seqIndex_neg (by omega) h4] at h1;rw[zF,<-F];exact zC h1
  exact subscriptTail_builtinR b.isList.typeIs slot_list_getitem.lookup
   (wpAny_getItem_list_neg b.isList (by omega) (by rw[zF]<;>omega) (by omega) (by rw[c];simpa ) ⟨rfl,fin⟩) hs
def R7:IxR X (R4 X.K):=by
 intro value slice pins s σ H x y v u Q I f d h hs;obtain⟨p,G,i,z,rfl,rfl,m,E,q⟩:=h;cases f;obtain⟨t,rfl⟩:=d;obtain⟨F,r,c,J⟩:=I.tuple m;obtain⟨j,h1,h2,O⟩:=wJ E;obtain⟨w,P,b⟩:=r.get h2;have C:=r.length;have L:=pJ;have fin:EP X _ σ Q w s:=⟨z,H,I,b,q⟩;exact subscriptTail_builtinR c.typeIs slot_tuple_getitem.lookup
  (getItem_tuple c (by omega) (by omega) (by rw[zF,<-C];exact h1) (by simpa ) ⟨rfl,fin⟩) hs
def R8:IxR X R5:=by
 intro value slice pins s σ H x y v u Q I d b h hs;obtain⟨z,i,c,rfl,rfl,J,m,q⟩:=h;obtain⟨t,rfl⟩:=d;obtain⟨G,rfl⟩:=b;obtain⟨j,h1,h2,h4,C⟩:=wJ m
 have f:z.cps.toList.length=z.length:=by simp[Str.length]
 rw[f] at h1 h4 C;have L:=pJ
 exact tail_any (typeIs_str s z t) slot_str_getitem.lookup (getItem_str (by
  have F:decide (i < -2 ^ 63)=false:=zk (by omega);have E:decide (i>=2 ^ 63)=false:=zk (by omega)
  rw[F,E,Bool.or_false]) (by rw[h1];simpa using h2) ⟨.str _,H,I.tok _,⟨_,rfl⟩,q⟩) hs
def R9(b:List Value)(n j:Nat)(u:Value):Obj.mapSeq (·.setIfInBounds j u) {cls:=.type "list",data:=.seq b.toArray n} = {cls:=.type "list",data:=.seq (b.set j u).toArray n}:=by
 simp[Obj.mapSeq]
def Inv.lst{X:Cx}{pins:List (Addr×Obj)}{σ:St}{H:Hp}{s:Shared}{p:Addr}{xs:List V}(I:Inv X pins σ H s)(h:H p=some (.lst xs)):
  ∃(b:List Value) (n:Nat),aF xs b/\s.heap.get? p=some {cls:=.type "list",data:=.seq b.toArray n}/\xs.length<=sizeLine:=by
 obtain⟨z,b,n,r,e⟩:=I.hok p _ h;exact⟨b,n,r,e,z⟩
def Inv.lstUpd  {σ:St}     {c:List Value}   (I:Inv X y σ H s)(h:H p=some (.lst xs))
  (j:s.heap.get? p=some {cls:=.type "list",data:=.seq c.toArray n}) (d:f {cls:=.type "list",data:=.seq c.toArray n} = {cls:=.type "list",data:=.seq its'.toArray n'}) (r:aF ys its') (hz:ys.length<=sizeLine) (t:Nat):
  Inv X y σ (upd H p (.lst ys)) {s with heap:=s.heap.update p f,toks:=t}:=by
 have e:(s.heap.update p f).get? p=some {cls:=.type "list",data:=.seq its'.toArray n'}:=by
  rw[Heap.get?_update_self f j (by rw[d]<;>rfl),d]
 refine I.write (x:=p) (e:=p) (by rw[h];trivial) (.inl rfl) (λb u m q=>(jp _ _ (Ne.symm m)).trans q) ⟨_,e⟩ ?_;exact⟨hz,its',n',r,e⟩
def Sd:V->V->V->Hp->(Hp->Prop)->Prop:=λo i v H Q=>∃p b k j,o=.ref p/\i=.int k/\H p=some (.lst b)/\ixN b.length k=some j/\Q (upd H p (.lst (b.set j v)))
def set_list:Dh X Sd:=by
 intro pins s σ H o i v J L u Q I y C x h;obtain⟨p,G,k,j,rfl,rfl,m,F,q⟩:=h;cases y;obtain⟨t,rfl⟩:=C;obtain⟨f,n,r,b,E⟩:=I.lst m;obtain⟨h1,h2,h3,h4⟩:=Ec F;have c:=r.length;have O:=pJ;have I'  :=
  I.lstUpd m b (R9 _ n j u) (r.set x j) (by rw[zV];exact E) s.toks
 by_cases h0:0<=k
 ·have d :=by
   rw[seqIndex_of h0 h4] at h1;exact zC h1
  exact PySem.W.ki_setAt b h0 (by omega) (by rw[zF,<-c];exact h4) (by rw[d];exact⟨_,I',q⟩)
 ·have d:(k+f.toArray.size).toNat=j:=by
   rw[seqIndex_neg (by omega) h3] at h1;rw[zF,<-c];exact zC h1
  exact PySem.W.ki_setBack b (by omega) (by rw[zF,<-c];exact h3) (by omega) (by rw[d];exact⟨_,I',q⟩)
def Ed(b c:Option Int)(n:Nat):(sliceBounds b c none n).1=((HT.sIx n 0 b:Nat):Int)/\(sliceBounds b c none n).2.1=((HT.sIx n n c:Nat):Int)/\(sliceBounds b c none n).2.2=1:=by
 refine⟨?_,?_⟩
 ·cases b with
  |none=>simp[sliceBounds,HT.sIx]
  |some i =>
   simp  [sliceBounds,HT.sIx,if_true]
   by_cases h:i<0
   ·simp  [h]<;>omega
   ·simp  [h]<;>omega
 ·cases c with
  |none=>simp[sliceBounds,HT.sIx]
  |some i =>
   simp  [sliceBounds,HT.sIx,if_true]
   by_cases h:i<0
   ·simp  [h]<;>omega
   ·simp  [h]<;>omega
def Sg(b:List Value)(c d:Option Int):slicePick b.toArray c d none=((b.drop (HT.sIx b.length 0 c)).take (HT.sIx b.length b.length d - HT.sIx b.length 0 c)).toArray:=by
 obtain⟨h1,h2,h3⟩:=Ed c d _;unfold slicePick;rw[h1,h2,h3]
 simp only[sliceRange_one,pick_run]<;>rfl
def Sh(K:PySem.W.Frag):V->Option Int->Option Int->Hp->VK->Prop:=λx c d H Q=>∃a b,x=.ref a/\SqL K H a b/\∀p,H p=none->Q (.ref p) (upd H p (.lst (lQ b c d)))
def Sq:SlR X (Sh X.K):=by
 intro pins s σ H x v vl F u C sl Q I f hs m j h;obtain⟨a,d,rfl,hx,q⟩:=h;cases f;obtain⟨E,r,c,y⟩:=I.list hx;have hlen:=r.length;refine⟨"list",_,slot_list_getitem.lookup,c.isList.typeIs,?_⟩;refine wpAny_getItem_list_slice c.isList hs m j .none (by simp) ?_;rw[Sg,<-hlen];refine⟨.ref _,_,I.laid (λb ob q=>zo _ q) (zc _) ?_,rfl,q _ (I.hok.fresh (zc _))⟩;exact⟨zG (Eb d u C) y,_,0,(r.drop _).take _,zy _ rfl⟩
def iB:V->Bool
 | .non=>true
 | .bl _=>true
 | .int _=>true
 | .str _=>true
 | _=>false
def eqV:V->V->Bool
 | .non,.non=>true
 | .bl a,.bl b=>a == b
 | .bl a,.int b=>(if a then 1 else 0) == b
 | .int a,.bl b=>a == (if b then 1 else 0)
 | .int a,.int b=>a == b
 | .str a,.str b=>a == b
 | _,_=>false
def Ss     (f:RelV y u)(c:RelV x v)(m:iB y=true)(j:iB x=true):SeqAt.EqAt A s u v (eqV y x):=by
 cases y with
 |non =>
  cases f
  cases x with
  |non=>cases c;exact SeqAt.EqAt.same _
  |bl b=>cases c;exact SeqAt.EqAt.none_bool b
  |int b=>obtain⟨t,rfl⟩:=c;exact SeqAt.EqAt.none_int b t
  |str b=>obtain⟨t,rfl⟩:=c;exact SeqAt.EqAt.none_str b t
  | _=>exact absurd (show false=true from j) zv
 |bl a =>
  cases f
  cases x with
  |non=>cases c;exact SeqAt.EqAt.bool_none a
  |bl b=>cases c;exact SeqAt.EqAt.bool_bool a b
  |int b=>obtain⟨t,rfl⟩:=c;exact SeqAt.EqAt.bool_int a b t
  |str b=>obtain⟨t,rfl⟩:=c;exact SeqAt.EqAt.bool_str a b t
  | _=>exact absurd (show false=true from j) zv
 |int a =>
  obtain⟨d,rfl⟩:=f
  cases x with
  |non=>cases c;exact SeqAt.EqAt.int_none a d
  |bl b=>cases c;exact SeqAt.EqAt.int_bool a d b
  |int b=>obtain⟨t,rfl⟩:=c;exact SeqAt.EqAt.int_int a d b t
  |str b=>obtain⟨t,rfl⟩:=c;exact SeqAt.EqAt.int_str a d b t
  | _=>exact absurd (show false=true from j) zv
 |str a =>
  obtain⟨d,rfl⟩:=f
  cases x with
  |non=>cases c;exact SeqAt.EqAt.str_none a d
  |bl b=>cases c;exact SeqAt.EqAt.str_bool a d b
  |int b=>obtain⟨t,rfl⟩:=c;exact SeqAt.EqAt.str_int a d b t
  |str b=>obtain⟨t,rfl⟩:=c;exact SeqAt.EqAt.str_str a d b t
  | _=>exact absurd (show false=true from j) zv
 | _=>exact absurd (show false=true from m) zv
def eqU(x:V)(u:Value):Bool:=match u with
 | .none=>eqV .non x
 | .bool b=>eqV (.bl b) x
 | .int i _=>eqV (.int i) x
 | .str z _=>eqV (.str z) x
 | _=>false
def Ef   (r:RelV y u)(f:iB y=true):eqU x u=eqV y x:=by
 cases y with
 | non
 | bl b
 | int i
 |str z=>obtain⟨t,rfl⟩:=r;rfl
 | _=>exact absurd (f) zv
theorem wK :∀{xs:List V}{us:List Value},aF xs us->xs.all iB=true->us.any (eqU x)=xs.any λy=>eqV y x
 | _,_,.nil,_=>rfl
 |y::xs,u::us,.cons r t,f=>by
  rw[List.all_cons,zx] at f;rw[List.any_cons,List.any_cons,Ef r f.1,wK t f.2]
theorem wL  {s:Shared}{x:V}{v:Value}(c:RelV x v)(d:iB x=true):∀{xs:List V}{us:List Value},aF xs us->xs.all iB=true->∀u∈us,SeqAt.EqAt A s u v (eqU x u)
 | _,_,.nil,_=>λu b=>by cases b
 |y::xs,u::us,.cons r t,f=>λj b=>by
  rw[List.all_cons,zx] at f
  rcases zl.mp b with rfl | b
  ·rw[Ef r f.1];exact Ss r c f.1 d
  ·exact wL c d t f.2 j b
def inV(x:V)(xs:List V):Bool:=xs.any λy=>eqV y x
def rIn(K:PySem.W.Frag)(c:Bool):R2:=λx y H Q=>∃p b,y=.ref p/\(SqL K H p b\/SqT K H p b)/\iB x=true/\b.all iB=true/\Q (.bl (if c then !inV x b else inV x b)) H
def Su:OpR X (compareOp .In) (rIn X.K false):=by
 intro pins s σ H x y v u Q I j C h;obtain⟨p,F,rfl,c,m,fs,q⟩:=h;cases C
 rcases c with c | c
 ·obtain⟨b,r,d,E⟩:=I.list c;refine SeqAt.in_listAt _ d.isList (λw f=>wL j m r fs w (by simpa using f)) ⟨.bl _,H,I,rfl,?_⟩;rw[show b.toArray.any _=b.any (eqU x) by simp,wK r fs];exact q
 ·obtain⟨b,r,d,E⟩:=I.tuple c;refine SeqAt.in_tupleAt _ d (λw f=>wL j m r fs w (by simpa using f)) ⟨.bl _,H,I,rfl,?_⟩;rw[show b.toArray.any _=b.any (eqU x) by simp,wK r fs];exact q
def Eg:fK X (.type "list") (λxs H Q=>∃p ys,xs=[.ref p]/\(SqL X.K H p ys\/SqT X.K H p ys)/\∀l,H l=none->Q (.ref l) (upd H l (.lst ys))):=by
 intro pins s σ H xs J Q I r h;obtain⟨p,ys,rfl,x,q⟩:=h;obtain⟨u,rfl,G⟩:=vals1 r;cases G;have fin:∀(c ),aF ys _->ys.length<=sizeLine->∀(d:Heap) (j ),(∀b F,s.heap.get? b=some F->d.get? b=some F) ->
   d.get? _=some _->EP X _ σ Q _ _:=λc f m d j kp e =>
  ⟨.ref _,_,I.laid (t':=s.toks) kp (zc _) (show cg _ _ _ d _ (.lst ys) from⟨m,c,j,f,e⟩),rfl,q _ (I.hok.fresh (zc _))⟩
 rcases x with x | x
 ·obtain⟨c,f,y,m⟩:=I.list x;have hlen:=f.length;obtain⟨o,C,E,n,hd⟩:=y.isList
  exact call_list_seq p (.inl rfl) C E hd λd j kp e=>fin _ f m d j kp e
 ·obtain⟨c,f,y,m⟩:=I.tuple x;have hlen:=f.length;obtain⟨o,C,E,n,hd⟩:=y
  exact call_list_seq p (.inr rfl) C E hd λd j kp e=>fin _ f m d j kp e
def tyV(K:PySem.W.Frag)(T:String)(x:V)(H:Hp):Prop:=match x with
 | .str _=>T = "str"
 | .int _=>T = "int"
 | .ref p=>(T = "list"/\∃c,SqL K H p c)\/(T = "tuple"/\∃o,K.lookup p=some o/\o.cls=.type "tuple"/\o.dict=none) \/
   (T = "dict"/\((∃b,H p=some (.dK b))\/∃b,H p=some (.dT b)))\/(T = "set"/\∃S n,H p=some (.set S n))
 | _=>False
def Eh  {σ:St}      (I:Inv X pins σ H s)(r:RelV x v)(ty:tyV X.K T x H):
  s.TypeIs v T/\∀a,v=.ref a->∃ob,s.heap.get? a=some ob/\ob.dict=none:=by
 cases x with
 |str z =>
  obtain⟨t,rfl⟩:=r;cases(ty);exact⟨typeIs_str s z t,λ_ e=>nomatch e⟩
 |int i =>
  obtain⟨t,rfl⟩:=r;cases(ty);exact⟨typeIs_int s i t,λ_ e=>nomatch e⟩
 |ref p =>
  cases r
  rcases ty with⟨rfl,y,m⟩ | ⟨rfl,o,b,q,hd⟩ | ⟨rfl,b⟩ | ⟨rfl,S,n,b⟩
  ·obtain⟨u,_,j,_⟩:=I.list m;refine⟨j.isList.typeIs,λa e=>?_⟩;cases e;obtain⟨o,n,e,c,hd,_⟩:=j;exact⟨o,e,hd⟩
  ·refine⟨⟨o,I.kIn p o b,q⟩,λa e=>?_⟩;cases e;exact⟨o,I.kIn _ o b,hd⟩
  ·have z:∃o,s.heap.get? p=some o/\o.ExactDict:=by
    rcases b with⟨f,b⟩ | ⟨f,b⟩
    ·obtain⟨_,_,_,_,o,_,_,e,ex,_⟩:=I.hok p _ b;exact⟨o,e,ex⟩
    ·obtain⟨_,_,_,_,o,_,_,e,ex,_⟩:=I.hok p _ b;exact⟨o,e,ex⟩
   obtain⟨o,e,ex⟩:=z;refine⟨⟨o,e,ex.1⟩,λa d=>?_⟩;cases d;exact⟨o,e,ex.2.1⟩
  ·obtain⟨o,_,_,_,e,ex,_⟩:=I.hok p _ b;refine⟨⟨o,e,ex.1⟩,λa d=>?_⟩;cases d;exact⟨o,e,ex.2.1⟩
 | _=>exact False.elim ty
def Sw(K:PySem.W.Frag)(T:String)(r:V->List V->Hp->VK->Prop)(to:TE):TE:=λσ H Q=>to σ H λx b=>tyV K T x b/\r x [] b Q
def tBM(K:PySem.W.Frag)(T:String)(r:V->List V->Hp->VK->Prop)(to:TE)(t:TA):TE:=λσ H Q=>to σ H λx b=>tyV K T x b/\t σ b λc d=>r x c d Q
def Sx{apos b:Pos}{f:String}(m:PlainAttrs T)(slot:Slot T name f)(j:typeOf (.builtin f)=pure (.type "method_descriptor"))(u:MtR X f r)(q:PE X o to)
  (d:attributeBase o name X.env (eval o X.env)=eval o X.env:=by rfl) (c:(apos.endLine == b.line)=true:=by rfl):PE X (.Call (.Attribute o name apos) [] [] b) (Sw X.K T r to):=by
 intro pins s σ H Q I h;refine wpAny_Call_method0_late d c (thn (q _ s σ H _ I h) λv s1 ⟨x,H1,I1,r1,ty,q1⟩=>?_);obtain⟨h1,h2⟩:=Eh I1 r1 ty;exact⟨T,f,m,slot,j,h1,h2,Calls.callWith_builtin rfl (PySem.evalArgs_none (u _ s1 σ H1 x [] v [] Q I1 r1 .nil q1))⟩
def lR{apos b:Pos}{m:String}(y:PlainAttrs T)(slot:Slot T name m)(q:typeOf (.builtin m)=pure (.type "method_descriptor"))(E:MtR X m r)(C:PE X o to)(F:PA X (e::es) t)
  (f:attributeBase o name X.env (eval o X.env)=eval o X.env:=by rfl)
  (j:((backTo b (starEach (e::es) X.env)).all (λx=>!x.1)&&(backToKw b (keywordEach [] X.env)).all (λx=>x.1.isSome)
   && decide ((e::es).length+([]:List Keyword).length+(if([]:List Keyword).isEmpty then 0 else 1)<30))=true:=by rfl)
  (d:(apos.endLine == b.line)=true:=by rfl) (hs:starEach (e::es) X.env=(false,eval e X.env)::starEach es X.env:=by rfl) (c:(backTo b (starEach es X.env)).any (·.1)=false:=by rfl):
  PE X (.Call (.Attribute o name apos) (e::es) [] b) (tBM X.K T r to t):=by
 intro pins s σ H Q I h;refine wpAny_Call_method_late f j d rfl (thn (C _ s σ H _ I h) λv s1 ⟨x,H1,I1,r1,ty,q1⟩=>?_);obtain⟨h1,h2⟩:=Eh I1 r1 ty;refine⟨T,m,y,slot,q,h1,h2,?_⟩;have u:=F b _ s1 σ H1 _ I1 q1;rw[hs] at u ⊢;refine Calls.callWith_builtin (by show(false || (backTo _ _).any _)=false;rw[c]<;>rfl) (Calls.evalArgs_plain ?_)
 exact thn u λus s2 ⟨vs,H2,I2,r2,q2⟩=>E _ s2 σ H2 x vs v us Q I2 r1 r2 q2
def MtM(X:Cx)(d:String)(r:V->List V->Hp->VK->Prop):Prop :=
 ∀(pins:List (Addr×Obj)) (s:Shared) (σ:St) (H:Hp) (x:V) (b:List V) (v:Value) (c:List Value) (Q:VK),Inv X pins σ H s->RelV x v->aF b c->r x b H Q ->
  wpAny (model X.prog X.w) X.A (call (.builtin d) (v::c)) (EP X pins σ Q) X.xe s
theorem aF.one:∀{x:V}{us:List Value},aF [x] us->∃u,us=[u]/\RelV x u
 | _,_,.cons r .nil=>⟨_,rfl,r⟩
theorem aF.zero:∀{us:List Value},aF [] us->us=[]
 | _,.nil=>rfl
def aF.reverse   (h:aF xs us):aF xs.reverse us.reverse:=by
 induction h with
 |nil=>exact .nil
 |cons r t b=>rw[List.reverse_cons,List.reverse_cons];exact aF.append b (.cons r .nil)
theorem aF.rep   (h:aF xs us):∀k:Nat,aF (List.replicate k xs).flatten (List.replicate k us).flatten
 | 0=>.nil
 |k+1=>by
  rw[List.replicate_succ,List.replicate_succ,List.flatten_cons,List.flatten_cons];exact aF.append h (aF.rep h k)
theorem foldl_rep(c:List Value):∀(k:Nat) (b:List Value),
  List.foldl (λf d=>f++d) b.toArray (List.replicate k c.toArray)=(b++(List.replicate k c).flatten).toArray
 | 0,b=>by simp
 |k+1,b=>by
  have e:b.toArray++c.toArray=(b++c).toArray:=by simp
  have j:b++c++(List.replicate k c).flatten=b++(List.replicate (k+1) c).flatten:=by
   rw[List.replicate_succ,List.flatten_cons,zH]
  rw[<-j,<-foldl_rep ,<-e,List.replicate_succ,List.foldl_cons]
def Inv.lset{σ:St}{b:List Value}    (I:Inv X C σ H s)(m:H l=some (.lst xs))
  (e:s.heap.get? l=some {cls:=.type "list",data:=.seq b.toArray n}) (d:f b.toArray=its'.toArray) (hv:aF ys its') (hz:ys.length<=sizeLine):
  Inv X C σ (upd H l (.lst ys)) {s with heap:=s.heap.update l (Obj.mapSeq f),toks:=t'}:=by
 have q:=PySem.IsL.update e f;rw[d] at q;refine I.write (x:=l) (e:=l) (by rw[m];exact trivial) (.inl rfl) (λy u j c=>(jp s.heap (Obj.mapSeq f) (Ne.symm j)).trans c) ⟨_,q⟩ ?_;exact⟨hz,its',_,hv,q⟩
def Inv.lnew{σ:St}   (I:Inv X c σ H s)(hv:aF ys b)(hz:ys.length<=sizeLine):
  Inv X c σ (upd H s.heap.objs.size (.lst ys)) {s with heap:=s.heap.push {cls:=.type "list",data:=.seq b.toArray},toks:=t'}:=
 I.laid (λ_ _ q=>zo _ q) (zc _) ⟨hz,b,0,hv,zy _ rfl⟩
def Inv.fresh{σ:St}(I:Inv X b σ H s):H s.heap.objs.size=none:=I.hok.fresh (zc _)
def Inv.lstM{σ:St}(I:Inv X d σ H s)(c:H l=some (.lst xs)):xs.length<=sizeLine/\∃(b:List Value) (n:Nat),aF xs b/\xs.length=b.length/\s.heap.get? l=some {cls:=.type "list",data:=.seq b.toArray n}:=by
 obtain⟨z,b,n,r,e⟩:=I.hok l _ c;exact⟨z,b,n,r,r.length,e⟩
def Ei  (h:n<=sizeLine):Builtin.List.listTooLong n=false:=by
 exact zk (by omega)
def Sy:V->List V->Hp->VK->Prop:=λx c H Q=>∃l b y,x=.ref l/\c=[y]/\H l=some (.lst b)/\b.length<sizeLine/\Q .non (upd H l (.lst (b++[y])))
def Ej:MtM X "list.append" Sy:=by
 intro pins s σ H x C v E Q I c d h;obtain⟨l,m,y,rfl,rfl,b,G,q⟩:=h;cases c;obtain⟨u,rfl,f⟩:=d.one;obtain⟨z,j,n,r,J,e⟩:=I.lstM b;refine call_meets F.slot_list_append ⟨_,e,rfl⟩ F.entry_list_append (F.args_list_append_2 _ _) (PySem.list_append l _ n u) ⟨e,?_⟩;refine⟨.non,_,I.lset b e (by simp) (r.append (.cons f .nil)) ?_,rfl,q⟩;rw[zf,zM];omega
def SJ:V->List V->Hp->VK->Prop:=λx c H Q=>∃l b,x=.ref l/\c=[]/\H l=some (.lst b)/\Q .non (upd H l (.lst b.reverse))
def SM:MtM X "list.reverse" SJ:=by
 intro pins s σ H x u v y Q I d f h;obtain⟨l,m,rfl,rfl,c,q⟩:=h;cases d;have b:=f.zero;subst b;obtain⟨z,j,n,r,C,e⟩:=I.lstM c;refine call_meets F.slot_list_reverse ⟨_,e,rfl⟩ F.entry_list_reverse (F.args_list_reverse_1 _) (AutoSeq1.list_reverse_list_0 l _ n (by rw[zF];omega)) ⟨e,?_⟩;refine⟨.non,_,I.lset c e (by simp) r.reverse ?_,rfl,q⟩;rw[List.length_reverse];omega
def len_rep{α:Type}(xs:List α)(k:Nat):(List.replicate k xs).flatten.length=k * xs.length:=by
 induction k with
 |zero=>simp
 |succ k b=>rw[List.replicate_succ,List.flatten_cons,zf,b,Nat.succ_mul,Nat.add_comm]
end L2
namespace Att
open PySem PySem.W PySem.Calls PyProof.Rows
def SN  :∀(ns:List Int) (vs:List Value),WellAll P h vs (ns.map WData.int)->IntsAre vs ns:=by
 intro ns
 induction ns with
 |nil =>
  intro vs w;cases w;exact .nil
 |cons n ns ih =>
  intro vs w
  cases w with
  |cons a b =>
   cases a;exact .cons _ _ (ih _ b)
def SQ{l:OpenLaw}  (q:l.most=some n)
  (b:l.row.toRowW.claim.pre args=true) (f:WellAll P h vals args):
  ∃a vs ns,vals=[Value.ref a]/\args=[WData.list (ns.map WData.int)]/\h.get? a=some {cls:=.type "list",data:=.seq vs.toArray}/\IntsAre vs ns/\ns.length<=n:=by
 have j :=(pre_splitW b).1;have u :=(pre_splitW b).2;obtain⟨d,r,rfl,h1,h2⟩:=hasAllW_cons j;obtain rfl:=hasAllW_nil h2;obtain⟨y,rfl,h3⟩:=hasW_list h1;obtain⟨ns,rfl⟩:=items_int h3
 have hlen :=by
  have h4 :=by
   have h4:=(holds_andW u).1;rw[q] at h4;exact h4
  have x:=condW_of h4 (w_not (w_lt w_lit (w_len_list (w_arg rfl))))
  first
   | (exact absurd )
   | (simp at x;omega)
 cases f with
 |cons w1 w2 =>
  cases w2
  cases w1 with
  |list m c=>exact⟨_,_,ns,rfl,rfl,m,SN ns _ c,hlen⟩
def SX(l:OpenLaw)(args:List WData):l.row.toRowW.claim.post args (.bool true) args=true :=
 postW_of
  (show WShape.has [] _ _=true by first | rfl | decide | simp )
  (w_eq_bool (w_res rfl) w_lit) rfl
def attach_call{l:OpenLaw}
  (P:l.most=some n) (E:d.params.defaults=[])
  (call:∀(w:World) (s₀ b:Shared) (mg mb:Str->Option Value) (fa:Addr) (o:Obj) (pm x c:Value) (a:Addr) (vs:List Value) (ns:List Int),
   Ground q Z [] XP w s₀ mg mb b.heap->YP w b.heap ->
   b.heap.get? fa=some o->o.data=.func (docDef d.name d.params d.body d.scope pm x c)->b.heap.CodeRec x d.name->mg d.name=some (.ref fa) ->
   b.heap.get? a=some {cls:=.type "list",data:=.seq vs.toArray}->IntsAre vs ns->ns.length<=n->b.gens = #[] ->
   codeAny (model l.prog w) callerA (.call (.ref fa) ⟨[.ref a],[]⟩) (λr u=>r=.ok (.ret (.bool true))/\OldK b.heap u.heap/\u.os=b.os/\AllBare u.gens) b):
  WalkO q Z XP YP l.row.toRowW d [] (λf vs=>PySem.call f vs):=by
 intro w s₀ b mg mb G Y fa o pm x c T kV O hd F I C R args vals X j J U y W;obtain rfl:T=.none:=Dflts.none I E;obtain rfl:kV=.none:=Dflts.noKw I;obtain⟨a,vs,ns,rfl,rfl,m,hints,hlen⟩:=SQ P j y;refine enter_call (codeAny_mono (call w s₀ b mg mb fa o pm x c a vs ns G Y O (fd_plain hd) F C m hints hlen R) λr u L=>?_);obtain⟨rfl,h2,h3,h4⟩:=L;exact⟨.inl ⟨.bool true,.bool true,[],rfl,λ_=>rfl,.bool true,SX l _,λ_=>⟨List.Pairwise.nil,λ_ Q=>(nomatch Q)⟩⟩,h2,h3,h4⟩
end Att
namespace L2
open PySem PySem.Spec PyProof.Rows
theorem Ek:∀{vs:List Value}{ns:List Int},IntsAre vs ns->aF (ns.map V.int) vs
 | _,_,.nil=>.nil
 | _,_,.cons n t h=>.cons ⟨t,rfl⟩ (Ek h)
def sG(H:Hp):Prop:=∀b,H b=none\/∃o c,H b=some (.frz o (.lst c))
def inClass(s:Stmt)(j:Nat):Stmt:=match s with
 | .ClassDef _ _ _ body _ _ _ _ _ _ _=>body.getD j (.Pass ⟨0,0,0,0⟩)
 | _=>.Pass ⟨0,0,0,0⟩
def dI(s:Stmt):Arguments:=match s with
 | .FunctionDef _ a _ _ _ _ _ _ _ _=>a
 | _=>{posonlyargs:=[],args:=[],vararg:=none,kwonlyargs:=[],kw_defaults:=[],kwarg:=none,defaults:=[]}
def cL(s:Stmt):List Stmt:=match s with
 | .FunctionDef _ _ b _ _ _ _ _ _ _=>b
 | _=>[]
def aZ(s:Stmt):Scope:=match s with
 | .FunctionDef _ _ _ _ _ _ sc _ _ _=>sc
 | _=>{kind:=.function,names:=[],isGenerator:=false,isCoroutine:=false}
abbrev CX0:CXT:=λ_ _ _ _ _ _=>False
abbrev E0:XK:=λ_ _ _=>False
def lU :jz CX0 X E0:=λ_ _ _ _ _ _ _ h=>h.elim
structure Fun(K:PySem.W.Frag)(x qual:Str)(st:Stmt)(f:Addr)(fd:FuncData):Prop where
 ex:∃(oc:Value) (od:Option Addr) (kV doc pm:Value) (an:Option Addr) (cdv ct:Value) (osl:Array (Option Value)),
  fd=PySem.W.fnOf x qual (dI st) (cL st) (aZ st) .none kV doc pm an cdv ct/\K.lookup f=some ⟨oc,od,.func fd,osl⟩/\PySem.W.codeIn K cdv qual=true
 kp:PySem.W.keepIn K (.ref f)=true
def Fun.ok{K:PySem.W.Frag}  {st:Stmt}      (F:Fun K x O st f fd)(S:gj N ps (aZ st))(len:∀vs H Q E,sp vs H Q E->vs.length=ps.length)
  (c:∀(b:Value) (A:Around) (outer:List Env) (s:Shared) (H:Hp) (vs:List V) (Q:VK) (E:XK),aV k (A.deeper (envOfC O (aZ st) s.heap.objs.size f b))->sp vs H Q E ->
   ∃t,PSs (gk CX0 P w K mg base N O (aZ st) f b A outer s H E).nox (cL st) t/\t {nx:=λ_ u=>Q .non u,rt:=Q} (start N vs) H):cG P w K mg base CX0 (k+1) f fd ps sp:=by
 obtain⟨J,I,kV,C,G,L,b,ct,y,rfl,lk,j⟩:=F.ex
 refine DX lk j S len λA outer s H vs Q E m d=>?_
 obtain⟨t,h,q⟩:=c b A outer s H vs Q E m d;exact⟨t,h.nox,q⟩
def Fun.binds{K:PySem.W.Frag}  {st:Stmt}    (F:Fun K x y st f fd)
  (h:∀(kV b pm:Value) (d:Option Addr) (c ct:Value) (us:List Value),us.length=ps.length->bindArgs (PySem.W.fnOf x y (dI st) (cL st) (aZ st) .none kV b pm d c ct) ⟨us,[]⟩=pure (ps.zip us)):Binds K fd ps []:=by
 obtain⟨u,q,kV,b,pm,d,c,ct,j,rfl,lk,m⟩:=F.ex;exact .all (h kV b pm d c ct)
def El{K:PySem.W.Frag}  {st:Stmt}     {kV:Value}(l:K.lookup f=some ⟨y,u,.func (PySem.W.fnOf x b (dI st) (cL st) (aZ st) .none kV j pm q d ct),m⟩)
  (c:PySem.W.codeIn K d b=true) (k:PySem.W.keepIn K (.ref f)=true):Fun K x b st f (PySem.W.fnOf x b (dI st) (cL st) (aZ st) .none kV j pm q d ct):=⟨⟨y,u,kV,j,pm,q,d,ct,m,rfl,l,c⟩,k⟩
def wM   (b:aV k A):A.units+1<cLine:=Nat.lt_of_le_of_lt (Nat.add_le_add_left (by decide) _) b.units
def Same(H c:Hp):Prop:=∀b o,H b=some o->c b=some o
def Same.refl(H:Hp):Same H H:=λ_ _ h=>h
def Same.trans  (a:Same H f)(b:Same f d):Same H d:=λc o h=>b c o (a c o h)
def Same.seq{K:PySem.W.Frag}    (e:Same H b)(h:SqL K H a xs):SqL K b a xs:=by
 rcases h with(h | ⟨o,h⟩) | h
 ·exact .inl (.inl (e _ _ h))
 ·exact .inl (.inr ⟨o,e _ _ h⟩)
 ·exact .inr h
section
variable {κ:Type}[DecidableEq κ]
def dJ(b:List (κ×V))(k:κ):Option V:=(b.find? λc=>decide (c.1=k)).map (·.2)
def putK(b:List (κ×V))(k:κ)(v:V):List (κ×V):=
 if(b.any λc=>decide (c.1=k))=true then b.map (λc=>if c.1=k then(c.1,v) else c) else b++[(k,v)]
def m7{p:κ×V}{r:List (κ×V)}{k:κ}(e:p.1=k):dJ (p::r) k=some p.2:=by simp[dJ,List.find?_cons,e]
def m8{p:κ×V}{r:List (κ×V)}{k:κ}(e:¬p.1=k):dJ (p::r) k=dJ r k:=by simp[dJ,List.find?_cons,e]
theorem wN(k:κ):∀b:List (κ×V),(b.any λc=>decide (c.1=k))=(dJ b k).isSome
 | []=>rfl
 |p::r=>by
  rw[List.any_cons]
  by_cases e:p.1=k
  ·simp only[m7 e,zu e,Bool.true_or,Option.isSome_some]
  ·rw[m8 e,zk e,Bool.false_or];exact wN k r
def sH(b:List (κ×V))(k:κ)(v:V):(putK b k v).length<=b.length+1:=by
 unfold putK
 split
 ·rw[zd];omega
 ·rw[zf,zz,zW];omega
def dH.isSome_eq{o:Option V}{u:Option Value}(r:dH o u):o.isSome=u.isSome:=by
 cases o with
 |none=>cases u with
  |none=>rfl
  |some _=>exact(show False from r).elim
 |some _=>cases u with
  |none=>exact(show False from r).elim
  |some _=>rfl
def KV.val{c:List (κ×V)}{vs:List (κ×Value)}(r:KV c vs)(k:κ):dH (dJ c k) (valueAt vs k):=by
 unfold KV at r
 induction r with
 |nil=>exact True.intro
 | @cons p q ps qs h t ih =>
  obtain⟨h1,h2⟩:=h
  by_cases e:p.1=k
  ·have e':q.1=k:=h1.symm.trans e
   have b:valueAt (q::qs) k=some q.2:=by simp[valueAt,List.find?_cons,e']
   rw[m7 e,b];exact h2
  ·have e':¬q.1=k:=λz=>e (h1.trans z)
   have b:valueAt (q::qs) k=valueAt qs k:=by simp[valueAt,List.find?_cons,e']
   rw[m8 e,b];exact ih
def KV.any{b:List (κ×V)}{vs:List (κ×Value)}(r:KV b vs)(k:κ):(b.any λc=>decide (c.1=k))=vs.any λc=>decide (c.1=k):=by
 unfold KV at r
 induction r with
 |nil=>rfl
 |cons h t d=>rw[List.any_cons,List.any_cons,d,h.1]
def KV.repl{c:List (κ×V)}{vs:List (κ×Value)}(r:KV c vs)(k:κ){y:V}{u:Value}(d:RelV y u):
  KV (c.map λb=>if b.1=k then(b.1,y) else b) (vs.map λb=>if b.1=k then(b.1,u) else b):=by
 unfold KV at r ⊢
 induction r with
 |nil=>exact .nil
 | @cons p q ps qs h t ih =>
  rw[zg,zg];refine .cons ?_ ih;obtain⟨h1,h2⟩:=h
  by_cases e:p.1=k
  ·rw[if_pos e,if_pos (h1.symm.trans e)];exact⟨h1,d⟩
  ·rw[if_neg e,if_neg (λz=>e (h1.trans z))];exact⟨h1,h2⟩
def KV.put{b:List (κ×V)}{vs:List (κ×Value)}(r:KV b vs)(k:κ){y:V}{u:Value}(c:RelV y u):KV (putK b k y) (stored vs k u):=by
 unfold putK stored;rw[r.any k]
 by_cases e:(vs.any λd=>decide (d.1=k))=true
 ·rw[if_pos e,if_pos e];exact r.repl k c
 ·rw[if_neg e,if_neg e];exact Paired.snoc r ⟨rfl,c⟩
def KV.length{b:List (κ×V)}{vs:List (κ×Value)}(r:KV b vs):b.length=vs.length:=Paired.length r
end
def m9     (r:RelV (kV k) u):(cO P w).is k u=true:=by
 cases k with
 |inl i=>obtain⟨t,e⟩:=(r);subst e;exact Oe P w i t
 |inr x=>obtain⟨t,e⟩:=(r);subst e;exact Og P w x t
theorem sJ  :∀{ks:List Key}{us:List Value},aF (ks.map kV) us->ItemsAre (cO P w) ks us
 | [],_,r=>by cases r;exact .nil
 |k::ks,_,r=>by
  cases r with
  |cons h t=>exact .cons (m9 h) (sJ t)
abbrev KT(H:Hp):List (List Key×V)->List (List Key×Addr×Value)->Prop:=Paired λp q=>p.1=q.1/\H q.2.1=some (.tup (p.1.map kV))/\RelV p.2 q.2.2
def KT.val    (r:KT H kvs xs)(k:List Key):dH (dJ kvs k) ((atKey xs k).map (·.2)):=by
 induction r with
 |nil=>exact True.intro
 | @cons p q ps qs h t ih =>
  obtain⟨h1,_,h2⟩:=h
  by_cases e:p.1=k
  ·have e':q.1=k:=h1.symm.trans e
   have b:atKey (q::qs) k=some q.2:=by simp[atKey,List.find?_cons,e']
   rw[m7 e,b];exact h2
  ·have e':¬q.1=k:=λz=>e (h1.trans z)
   have b:atKey (q::qs) k=atKey qs k:=by simp[atKey,List.find?_cons,e']
   rw[m8 e,b];exact ih
def KT.repl    (r:KT H kvs xs)(k:List Key)   (c:RelV y u):
  KT H (kvs.map λb=>if b.1=k then(b.1,y) else b) (xs.map (putAt k u)):=by
 induction r with
 |nil=>exact .nil
 | @cons p q ps qs h t ih =>
  rw[zg,zg];refine .cons ?_ ih;obtain⟨h1,h2,h3⟩:=h;unfold putAt
  by_cases e:p.1=k
  ·rw[if_pos e,if_pos (h1.symm.trans e)];exact⟨h1,h2,c⟩
  ·rw[if_neg e,if_neg (λz=>e (h1.trans z))];exact⟨h1,h2,h3⟩
def KT.put    (r:KT H f xs)(k:List Key)    (hb:H b=some (.tup (k.map kV)))(c:RelV y u):
  KT H (putK f k y) (storedH xs k b u):=by
 have e:(f.any λd=>decide (d.1=k))=(atKey xs k).isSome:=by
  rw[wN,(r.val k).isSome_eq,Option.isSome_map]
 unfold putK storedH;rw[e]
 by_cases q:(atKey xs k).isSome=true
 ·rw[if_pos q,if_pos q];exact r.repl k c
 ·rw[if_neg q,if_neg q];exact Paired.snoc r ⟨rfl,hb,c⟩
def KT.keeps    (r:KT H d xs)(c:∀b ys,H b=some (.tup ys)->f b=some (.tup ys)):KT f d xs :=
 Paired.mapP r λ_ _ z=>⟨z.1,c _ _ z.2.1,z.2.2⟩
def wO  (ok:HOk P w H h)(e:Rd H a u):cg P w H h a u:=e.ok ok
def sO  (ok:HOk P w H h)(e:Rd H a (.dK b)):b.length<=sizeLine/\(a == sysModules)=false/\∃vs,KV b vs/\h.DictOf (cO P w) a vs :=
 wO ok e
def S5  (ok:HOk P w H h)(e:H a=some (.dK b)):b.length<=sizeLine/\(a == sysModules)=false/\∃vs,KV b vs/\h.DictOf (cO P w) a vs:=sO ok (.inl e)
def sS  (ok:HOk P w H h)(e:H a=some (.tup (ks.map kV))):(tupleKind (cO P w)).is h ks a:=by
 obtain⟨_,b,r,o,h1,h2,n,h3⟩:=(show cg P w H h a (.tup (ks.map kV)) from ok a _ e);exact⟨o,b.toArray,n,h1,h2,h3,by simpa using sJ r⟩
def sU  (ok:HOk P w H h)(e:Rd H a (.dT f)):f.length<=sizeLine/\(a == sysModules)=false /\
  ∃xs,KT H f xs/\h.DictOfH (tupleKind (cO P w)) a xs:=by
 obtain⟨z,y,xs,r,o,c,d,h1,h2,h3,h4,b⟩:=(wO ok e);refine⟨z,y,xs,r,o,c,d,h1,h2,h3,h4,λx hx=>?_,b⟩
 have all:∀{l}{m},KT H l m->∀x∈m,(tupleKind (cO P w)).is h x.1 x.2.1:=by
  intro l m q
  induction q with
  |nil=>intro x hx;exact nomatch hx
  | @cons p q ps qs hq t ih =>
   intro x hx
   rcases zl.mp hx with e | hx
   ·subst e;exact sS ok (by rw[<-hq.1];exact hq.2.1)
   ·exact ih x hx
 exact all r x hx
def S6  (ok:HOk P w H h)(e:H a=some (.dT b)):b.length<=sizeLine/\(a == sysModules)=false /\
  ∃xs,KT H b xs/\h.DictOfH (tupleKind (cO P w)) a xs:=sU ok (.inl e)
def jA(H:Hp)(a:Addr)(y:V)(r:Option V):Prop :=
 (∃c k,Rd H a (.dK c)/\y=kV k/\r=dJ c k)\/∃c k b,Rd H a (.dT c)/\y=.ref b/\H b=some (.tup (k.map kV))/\r=dJ c k
def pO(H:Hp)(a:Addr)(y v:V)(d:Hp):Prop :=
 (∃c k,H a=some (.dK c)/\y=kV k/\c.length<sizeLine/\d=upd H a (.dK (putK c k v))) \/
 ∃c k b,H a=some (.dT c)/\y=.ref b/\H b=some (.tup (k.map kV))/\c.length<sizeLine/\d=upd H a (.dT (putK c k v))
def jA.k    {k:Key}(e:H a=some (.dK b)):jA H a (kV k) (dJ b k):=.inl ⟨b,k,.inl e,rfl,rfl⟩
def pO.k    {k:Key}  (e:H a=some (.dK c))(b:c.length<sizeLine):pO H a (kV k) v (upd H a (.dK (putK c k v))):=.inl ⟨c,k,e,rfl,b,rfl⟩
def Inv.big{σ:St}(I:Inv X b σ H s):sysModules<s.heap.objs.size:=by
 have h:mainGlobals<s.heap.objs.size:=(I.mod.glob.keeps I.bk).lt;exact Nat.lt_trans (by decide) h
def S7{σ:St}  (L:A.units+1<cLine)(I:Inv X R σ H s)(g:jA H a y (some v))(F:RelV y u)(h:∀d C,Inv X R σ H C->RelV v d->Q d C):
  wpAny (model X.prog X.w) A (getItem (.ref a) u) Q E s:=by
 rcases g with⟨q,k,e,j,l⟩ | ⟨q,k,b,e,j,P,l⟩
 ·subst j;obtain⟨z,hd,J,rel,m⟩:=sO I.hok e;obtain⟨d,f,c⟩:=dH.some_of (v:=v) (o:=valueAt J k) (by rw[l];exact rel.val k);exact wpAny_getItem_of (m9 F) m.mapOf f (h d _ (I.tok _) c)
 ·subst j;cases(show u=Value.ref b from F);obtain⟨z,hd,G,rel,m⟩:=sU I.hok e;obtain⟨d,f,c⟩:=dH.some_of (v:=v) (o:=(atKey G k).map (·.2)) (by rw[l];exact rel.val k);obtain⟨p,O,x⟩:=jq.mp f;refine wpAny_getItem_heap (tupleKind_room_in1 L) (sS I.hok P) m O ?_;rw[x];exact h d _ (I.tok _) c
def S8{σ:St}  (x:A.units+1<cLine)(I:Inv X J σ H s)(g:jA H a y o)(m:RelV y u)(h:∀j,Inv X J σ H j->Q (.bool (!o.isSome)) j):
  wpAny (model X.prog X.w) A (compareOp .NotIn u (.ref a)) Q E s:=by
 rcases g with⟨f,k,e,c,l⟩ | ⟨f,k,b,e,c,C,l⟩
 ·subst c;obtain⟨z,hd,G,rel,d⟩:=sO I.hok e;refine wpAny_notIn_of (m9 m) hd d.mapOf ?_;rw[<-(rel.val k).isSome_eq,<-l];exact h _ (I.tok _)
 ·subst c;cases(m);obtain⟨z,hd,F,rel,d⟩:=sU I.hok e;refine wpAny_notIn_heap (tupleKind_room_in1 x) (sS I.hok C) hd d ?_;have q:=(rel.val k).isSome_eq;rw[Option.isSome_map] at q;rw[<-q,<-l];exact h _ (I.tok _)
def wQ{σ:St}    (I:Inv X m σ H s)(d:Mut (H a))(hs:Heap.SameBut a s.heap h')(f:∃q,h'.get? a=some q)(c:cg X.prog X.w (upd H a ob) h' a ob):
  Inv X m σ (upd H a ob) {s with heap:=h',toks:=t'}:=
 I.write (x:=a) (e:=a) d (.inl rfl) (λb q j z=>(hs.2 b j).trans z) f c
def Em       (z:c.length<=sizeLine)(hd:(a == sysModules)=false)(rel:KV c vs)(b:h'.DictOf (cO P w) a vs):
  cg P w d h' a (.dK c):=⟨z,hd,vs,rel,b⟩
def S9{σ:St}   (Y:A.units+1<cLine)(I:Inv X pins σ H s)(g:pO H a y v H')(L:RelV y u)(O:RelV v r)(h:∀J,Inv X pins σ H' J->Q () J):
  wpAny (model X.prog X.w) A (setItem (.ref a) u r) Q E s:=by
 rcases g with⟨d,k,e,C,l,F⟩ | ⟨d,k,b,e,C,T,l,F⟩
 ·subst C F;obtain⟨z,hd,W,rel,G⟩:=S5 I.hok e
  have m:W.length<=sizeLine:=by rw[<-rel.length];exact z
  have x:(putK d k v).length<=sizeLine:=by have:=sH d k v;omega
  refine wpAny_setItem_pairs (hsz:=m) (m9 L) G λP f hs=>h _ ?_
  have Z:∃q,P.get? a=some q:=let ⟨q,_,_,j,_⟩:=f;⟨q,j⟩;exact wQ I (by rw[e];exact True.intro) hs Z (Em x hd (rel.put k O) f)
 ·subst C F;cases(show u=Value.ref b from L);obtain⟨z,hd,U,rel,G⟩:=S6 I.hok e
  have m:U.length<=sizeLine:=by rw[<-Paired.length rel];exact z
  have x:(putK d k v).length<=sizeLine:=by have:=sH d k v;omega
  refine wpAny_setItem_heap (hsz:=m) (tupleKind_room_in1 Y) (sS I.hok T) G λP f hs=>h _ ?_
  obtain⟨q,es,ep,j,h2,h3,h4,_,h5⟩:=f;refine wQ I (by rw[e];exact True.intro) hs ⟨q,j⟩ ⟨x,hd,_,(rel.put k T O).keeps λc ys R=>?_,q,es,ep,j,h2,h3,h4,h5⟩;rw[aH (ne_of R e (λz=>nomatch z))];exact R
def wR(i:Expr):Prop:=∀b c,subscripted i false b c=operate [b,c] (getItem b c)
def En         {q:String}
  (u:typeLookup (.type T) "__getitem__" = pure (some (.builtin q))) (hs:wR C)
  (h:wpAny (model prog w) A (eval F env) (λo f=>wpAny (model prog w) A (eval C env) (λi b=>b.TypeIs o T/\wpAny (model prog w) A (getItem o i) Q E b) E f) E s):
  wpAny (model prog w) A (eval (.Subscript F C G) env) Q E s:=by
 refine Subscript_ (zT h (λo f m=>zT m (λi b c=>?_) λ_ _ x=>x) λ_ _ x=>x);obtain⟨y,c⟩:=c;refine za ?_;refine za (wpAny_specialOf y u ?_)
 have fin:wpAny (model prog w) A (subscripted C false o i) (λr d=>wpAny (model prog w) A (letTemporaryGo F o r >>= λ_=>pure r) Q E d) E b:=by
  rw[hs ];exact wpAny_operating (zT c (λr d j=>za (wpAny_letTemporaryGo (zb j))) λ_ _ x=>x)
 first
  | exact zb (za fin)
  | exact za
  | exact za
def Tc   {σ:St}      (I:Inv X m σ H s)(g:jA H a y o):s.TypeIs (.ref a) "dict":=by
 rcases g with⟨d,k,e,_⟩ | ⟨d,k,b,e,_⟩
 ·obtain⟨_,_,j,_,c⟩:=sO I.hok e;exact c.typeIs
 ·obtain⟨_,_,f,_,c⟩:=sU I.hok e;exact c.typeIs
def Td(c ty:TE):TE:=λσ H Q=>c σ H λx d=>ty σ d λy b=>∃a v,x=.ref a/\jA b a y (some v)/\Q v b
def Eo(ty c:TE):TE:=λσ H Q=>ty σ H λy d=>c σ d λx b=>∃a o,x=.ref a/\jA b a y o/\Q (.bl (!o.isSome)) b
def Te(d ty c:TE):TS:=λD σ H=>c σ H λv m=>d σ m λx j=>ty σ j λy f=>∃a b,x=.ref a/\pO f a y v b/\D.nx σ b
def Tf(c:X.A.units+1<cLine)(d:PE X o C)(f:PE X i ty)(hs:wR i):PE X (.Subscript o i E) (Td C ty):=by
 intro pins s σ H Q I h;refine En PySem.F.slot_dict_getitem.lookup hs (thn (d _ s σ H _ I h) λu s1 ⟨x,H1,I1,rx,q1⟩=>thn (f _ s1 σ H1 _ I1 q1) λiv s2 ⟨y,H2,I2,ry,a,v,ex,g,q2⟩=>?_);subst ex;obtain rfl :=rx;exact⟨Tc I2 g,S7 c I2 g ry λm q j b=>⟨v,H2,j,b,q2⟩⟩
def Tg(b:X.A.units+1<cLine)(d:PE X i ty)(c:PE X o m):PC X .NotIn i o (Eo ty m):=by
 intro pins s σ H Q I h
 refine thn (d _ s σ H _ I h) λiv s1 ⟨y,H1,I1,ry,q1⟩=>thn (c _ s1 σ H1 _ I1 q1) λu s2 ⟨x,H2,I2,rx,a,ov,ex,g,q2⟩=>?_
 subst ex;obtain rfl :=rx
 exact S8 b I2 g ry λj f=>⟨.bl _,H2,f,rfl,q2⟩
def Th(b:X.A.units+1<cLine)(c:PE X o F)(d:PE X i ty)(hv:PE X m E)(hs:swapsWith m (some (.Subscript o i q)) C.line X.env=pure false):
  PS X (.Assign [.Subscript o i q] m C) (Te F ty E):=by
 intro pins s σ H D I h;refine wpAny_Assign_Subscript (thn (hv _ s σ H _ I h) λr s1 ⟨v,H1,I1,rv,q1⟩=>thn (c _ s1 σ H1 _ I1 q1) λu s2 ⟨x,H2,I2,rx,q2⟩=>thn (d _ s2 σ H2 _ I2 q2) λiv s3 ⟨y,H3,I3,ry,a,H4,ex,g,q3⟩=>?_) hs;subst ex;obtain rfl :=rx
 exact S9 b I3 g ry rv λj f=>⟨σ,H4,f,q3⟩
def Ti    (h:Heap)(hb:sysModules<h.objs.size):cg P w H (h.push {cls:=.type "dict",data:=.dict #[]}) h.objs.size (.dK []):=
 ⟨Nat.zero_le _,beq_eq_false_iff_ne.mpr (Ne.symm (zq hb)),[],.nil,Heap.DictOf.new h⟩
def Tj:TE:=λ_ H Q=>∀p,H p=none->Q (.ref p) (upd H p (.dK []))
def Tn:PE X (.Dict [] [] b) Tj:=λpins s σ H Q I h =>
 wpAny_Dict_empty ⟨.ref _,_,I.laid (λ_ _ q=>zo _ q) (zc _) (Ti _ I.big),rfl,h _ (I.hok.fresh (zc _))⟩
def wU:List (TE×TE)->St->Hp->(List (V×V)->Hp->Prop)->Prop
 | [],_,H,Q=>Q [] H
 | (tk,tv)::r,σ,H,Q=>tk σ H λx f=>tv σ f λy d=>wU r σ d λb c=>Q ((x,y)::b) c
abbrev VV:List (V×V)->List (Value×Value)->Prop:=Paired λp q=>RelV p.1 q.1/\RelV p.2 q.2
def PPs(X:Cx)(c:Pos)(keys:List (Option Expr))(values:List Expr)(b:List (TE×TE)):Prop :=
 ∀(pins:List (Addr×Obj)) (s:Shared) (σ:St) (H:Hp) (Q:List (V×V)->Hp->Prop),Inv X pins σ H s->wU b σ H Q ->
  wpAny (model X.prog X.w) X.A (evalPairs (pairTrees keys values X.env c)) (λj m=>∃d f,Inv X pins σ f m/\VV d j/\Q d f) X.xe s
def j8(b more:List (Key×V)):List (Key×V):=more.foldl (λc d=>putK c d.1 d.2) b
def KV.merge:∀{more:List (Key×V)}{c:List (Key×Value)}{b:List (Key×V)}{vs:List (Key×Value)},KV more c->KV b vs->KV (j8 b more) (merged vs c):=by
 intro more c b vs r;unfold KV at r
 induction r generalizing b vs with
 |nil=>intro q;exact q
 | @cons p q ps qs h t ih =>
  intro d
  have e:KV (putK b p.1 p.2) (stored vs q.1 q.2):=by
   have:=d.put p.1 h.2
   rw[<-h.1];exact this
  exact ih e
theorem Ep:∀(more b:List (Key×V)),(j8 b more).length<=b.length+more.length
 | [],b=>by show b.length<=b.length+0;omega
 |p::r,b=>by
  have h1:=Ep r (putK b p.1 p.2);have h2:=sH b p.1 p.2;show(j8 (putK _ _ _) r).length<=_;rw[zz];omega
structure M1(X:Cx)(o:Expr)(m:Str)(apos:Pos)(e:Expr)(cpos:Pos):Prop where
 base:attributeBase o m X.env (eval o X.env)=eval o X.env
 few:((backTo cpos (starEach [e] X.env)).all (λx=>!x.1)&&(backToKw cpos (keywordEach [] X.env)).all (λx=>x.1.isSome)
  && decide (([e]:List Expr).length+([]:List Keyword).length+(if([]:List Keyword).isEmpty then 0 else 1)<30))=true
 line:(apos.endLine == cpos.line)=true
 trees:backTo cpos (starEach [e] X.env)=[(false,eval e X.env)]
structure M2(X:Cx)(o:Expr)(m:Str)(apos:Pos)(e f:Expr)(cpos:Pos):Prop where
 base:attributeBase o m X.env (eval o X.env)=eval o X.env
 few:((backTo cpos (starEach [e,f] X.env)).all (λx=>!x.1)&&(backToKw cpos (keywordEach [] X.env)).all (λx=>x.1.isSome)
  && decide (([e,f]:List Expr).length+([]:List Keyword).length+(if([]:List Keyword).isEmpty then 0 else 1)<30))=true
 line:(apos.endLine == cpos.line)=true
 trees:backTo cpos (starEach [e,f] X.env)=[(false,eval e X.env),(false,eval f X.env)]
noncomputable def jB(cells:List (Str×Addr)):List (Str×NameKind)->List (Str×Addr)->List (Str×Addr)
 | [],acc=>acc
 | (n,k)::r,acc=>if k == .free then jB cells r ((n,(cells.lookup n).getD 0)::acc) else jB cells r acc
def j9(scope:Scope)(env:Env):List (Str×Addr):=jB env.cells scope.names []
def Er   (b:∀y∈scope.names,y.2=.free->∃c,env.cells.lookup y.1=some c):closureFor scope env=pure (j9 scope env):=by
 simp only[closureFor,j9]
 generalize []=d
 generalize scope.names=names at b
 induction names generalizing d with
 |nil=>rfl
 |cons y r ih =>
  obtain⟨n,k⟩:=y
  have f:=λa=>ih a λz m=>b z (zp _ m)
  by_cases j:k=.free
  ·obtain⟨c,q⟩:=b _ ze j;have hc' :=q;subst j;simp only[List.forIn_cons,cellOf,hc',jB];exact f _
  ·have u:(k == NameKind.free)=false:=by simpa
   simp only[List.forIn_cons,u,jB];exact f _
theorem wV   :∀{names:List (Str×NameKind)}{b:List (Str×Addr)},(jB cells names b).lookup x=some c->b.lookup x=some c\/(∃k,(x,k)∈names/\k=.free/\(cells.lookup x).getD 0=c)
 | [],b,h=>.inl h
 | (n,k)::r,b,h=>by
  unfold jB at h
  by_cases j:k=.free
  ·subst j
   rcases wV h with z | ⟨k,d,q⟩
   ·rw[List.lookup_cons] at z
    by_cases hx:x=n
    ·subst hx;simp at z;exact .inr ⟨.free,ze,rfl,z⟩
    ·have f:(x == n)=false:=by simpa
     rw[f] at z;exact .inl z
   ·exact .inr ⟨k,zp _ d,q⟩
  ·have f :=by simpa
   simp  [f] at h
   rcases wV h with z | ⟨k,d,q⟩
   ·exact .inl z
   ·exact .inr ⟨k,zp _ d,q⟩
theorem sV  :∀{names:List (Str×NameKind)}{b:List (Str×Addr)},((∃c,b.lookup x=some c)\/(x,NameKind.free)∈names)->∃c,(jB cells names b).lookup x=some c
 | [],b,h=>by
  rcases h with h | h
  ·exact h
  ·cases h
 | (n,k)::r,b,h=>by
  unfold jB
  by_cases f:k=.free
  ·subst f;refine sV ?_
   by_cases hx:x=n
   ·subst hx;exact .inl ⟨(cells.lookup x).getD 0,by simp ⟩
   ·have d:(x == n)=false:=by simpa
    rcases h with⟨c,h⟩ | h
    ·exact .inl ⟨c,by rw[List.lookup_cons,d];exact h⟩
    ·rcases zl.mp h with e | h
     ·cases e;exact absurd rfl hx
     ·exact .inr h
  ·have d :=by simpa
   simp  [d]
   refine sV ?_
   rcases h with h | h
   ·exact .inl h
   ·rcases zl.mp h with e | h
    ·cases e;exact absurd rfl f
    ·exact .inr h
def jC(scope b:Scope):List (Str×NameKind):=
 scope.names.map λ(n,k)=>if(k == .free&&b.kind == .function&&b.names.lookup n == some .cell) then(n,.cell) else(n,k)
def Es  (j:∀y∈scope.names,y.2≠.cell)   (h:(jC scope m).lookup x=some k)(f:k=.cell\/k=.free):(x,NameKind.free)∈scope.names:=by
 have d:=PySem.mem_of_lookup h;obtain⟨⟨n,c⟩,h1,h2⟩:=zA.mp d
 dsimp  at h2
 by_cases b:(c == NameKind.free&&m.kind == .function&&m.names.lookup n == some .cell)=true
 ·rw[if_pos b] at h2
  have e :=by
   simp   at b
   exact b.1.1
  cases h2;rw[<-e];exact h1
 ·rw[if_neg b] at h2;cases h2
  rcases f with e | e
  ·exact absurd e (j _ h1)
  ·rw[<-e];exact h1
def bH(b own:List Str)(cap:List Nat):List Str:=own++cap.map λj=>b.getD j (Str.ofString "")
noncomputable def compSt(own:List Str)(cap:List Nat)(σ:St):St:=own.map (λ_=>none)++cap.map λj=>(σ[j]?).join
def kh(b:Scope)(c:List Str)(scope:Scope)(own:List Str)(cap:List Nat):Bool :=
 (scope.kind == .function)&&scope.names.all (λy=>y.2 != .cell)&&scope.names.all (λy=>y.2 != .local || scope.names.lookup y.1 == some .local) &&
 scope.names.all (λy=>y.2 != .free || b.names.lookup y.1 == some .cell || b.names.lookup y.1 == some .free) &&
 cap.all λj=>decide (j<c.length)&&scope.names.contains (c.getD j (Str.ofString ""),NameKind.free)&&((jC scope b).lookup (c.getD j (Str.ofString "")) == some .cell || (jC scope b).lookup (c.getD j (Str.ofString "")) == some .free)
structure jD(sc0:Scope)(N0:List Str)(scope:Scope)(own:List Str)(cap:List Nat):Prop where
 kind:scope.kind=.function
 nocell:∀y∈scope.names,y.2≠.cell
 names:∀y∈scope.names,y.2=.local->scope.names.lookup y.1=some .local
 free:∀y∈scope.names,y.2=.free->sc0.names.lookup y.1=some .cell\/sc0.names.lookup y.1=some .free
 cap:∀j∈cap,j<N0.length/\(N0.getD j (Str.ofString ""),NameKind.free)∈scope.names/\((jC scope sc0).lookup (N0.getD j (Str.ofString ""))=some .cell\/(jC scope sc0).lookup (N0.getD j (Str.ofString ""))=some .free)
def jD.of     {cap:List Nat}(h:kh q u scope own cap=true):jD q u scope own cap:=by
 unfold kh at h;simp only[zx,jc,beq_iff_eq,bne_iff_ne,ne_eq,Bool.or_eq_true,decide_eq_true_eq,List.contains_iff_mem] at h;obtain⟨⟨⟨⟨h1,h2⟩,h3⟩,h4⟩,m⟩:=h;refine⟨h1,h2,λy d e=>?_,λy d e=>?_,λj f=>?_⟩
 ·rcases h3 y d with z | z
  ·exact absurd e z
  ·exact z
 ·rcases h4 y d with(z | z) | z
  ·exact absurd e z
  ·exact .inl z
  ·exact .inr z
 ·obtain⟨⟨a,b⟩,c⟩:=m j f;exact⟨a,b,c⟩
def bJ(X:Cx)(scope:Scope)(C:Addr)(N':List Str)(s:Shared)(H:Hp)(ex:List Addr):Cx where
 prog:=X.prog
 w:=X.w
 K:=X.K
 mg:=X.mg
 base:=X.base
 A:=X.A
 N:=N'
 s₀:=s
 H₀:=H
 env:=compEnvC scope (j9 scope X.env) C X.env
 outer:=X.stack
 stack:=X.stack
 ex:=ex
 fn:=λ_=>false
 calm:=X.calm
 pn:=[]
 xe:=λ_ _=>False
def kj(X:Cx)(b:List Expr)(t:TT):Prop :=
 ∀(pins:List (Addr×Obj)) (s:Shared) (σ:St) (H:Hp) (Q:Bool->Hp->Prop),Inv X pins σ H s->t σ H Q ->
  wpAny (model X.prog X.w) X.A (forIn b true λc r=>if r=true then do let ok <-isTrue c X.env (eval c X.env);pure (ForInStep.yield ok) else pure (ForInStep.yield r)) (TP X pins σ Q) X.xe s
def Tp:TT:=λ_ H Q=>Q true H
def Tq:kj X [] Tp:=λ_ _ _ H _ I h=>wpAny_tests_nil ⟨H,I,h⟩
def Tr   (h:PT X c t):kj X [c] t:=λpins s σ H Q I q=>wpAny_tests_one (h _ s σ H Q I q)
def Et(J:It)(g:TG)(C:TT)(te:TE)(Q:List V->Hp->Prop)(q:St)(G:Hp):Prop :=
 ∃W:Nat->Nat->List V->St->Hp->Prop,(∃m,W 0 m [] q G)/\∀i m d σ H,W i m d σ H ->
  (J.stop i H/\Q d H)\/(J.go i H/\d.length<sizeLine/\∃N:List V->St->Hp->Prop,(∀d j f,N d j f->∃u,u<m/\W (i+1) u d j f)/\∀x f,J.yld i H x f->g x σ f λc F=>C c F λb H3 =>
   if b=true then te c H3 λy E=>N (d++[y]) c E else N d c H3)
def sW(d:TI)(own:List Str)(cap:List Nat)(g:TG)(f:TT)(te:TE):TE:=λσ H Q =>
 d σ H λJ j=>Et J g f te (λb c=>b.length<=sizeLine/\∀p,c p=none->Q (.ref p) (upd c p (.lst b))) (compSt own cap σ) j
theorem Tt       (I:Nat->Shared->Prop)
  (turn:∀n s,I n s->wpAny (model prog w) A (pyNext it) (λr f=>match r with
   |none=>R (.ok .next) f
   |some v=>wpAny (model prog w) A (letOwnedTupleGo target it v) (λ_ j=>wpAny (model prog w) A (assign target env v) (λ_ y =>
     wpAny (model prog w) A (forIn ifs true λc r=>if r=true then do let ok <-isTrue c env (eval c env);pure (ForInStep.yield ok) else pure (ForInStep.yield r)) (λok d =>
      if ok=true then wpAny (model prog w) A (eval elt env) (λx u =>
       wpAny (model prog w) A (call (.builtin "list.append") [acc,x]) (λ_ q=>∃m,m<n/\I m q) (λ_ _=>False) u) (λ_ _=>False) d
      else ∃m,m<n/\I m d) (λ_ _=>False) y) (λ_ _=>False) j) (λ_ _=>False) f) (λ_ _=>False) s)
  (n:Nat) (h:I n s):
  codeAny (model prog w) A (.compLoop (.ListComp elt [⟨target,iter,ifs,0⟩] scope pos) 0 it acc env) R s:=by
 refine codeAny_loop rfl I (λn s hI=>?_) n h;refine wpAny_noted ?_;rw[compTurn_list];refine za (wpAny_standAt (za (zT (turn n s hI) (λr f E=>?_) λ_ _ b=>b.elim)))
 cases r with
 |none=>exact zb E
 |some v =>
  refine za (zT E (λ_ j F=>?_) λ_ _ b=>b.elim);refine za (zT F (λ_ y L=>za (zT L (λok d C=>?_) λ_ _ b=>b.elim)) λ_ _ b=>b.elim)
  cases ok with
  |false=>exact zb ⟨rfl,C⟩
  |true =>
   exact za (za (zT C (λx u J=>za (zT J (λ_ q G=>zb (zb ⟨rfl,G⟩)) λ_ _ b=>b.elim)) λ_ _ b=>b.elim))
def wW{pins:List (Addr×Obj)}{σ:St}{f:Shared}{x:Hp}{scope b:Scope}{m own:List Str}{cap:List Nat}(u:Inv X pins σ x f)(d:X.env.scope=b)(ok:jD b m scope own cap):∀y∈scope.names,y.2=.free->∃c,X.env.cells.lookup y.1=some c:=λy j e=>by
 refine u.ok.has _ ?_;have q:=ok.free y j e;rw[<-d] at q;exact q
def km{σ:St}(j:Inv X y σ F C)(b:X.env.scope=u)(ok:jD u E scope own cap)   (h:(j9 scope X.env).lookup x=some c):X.env.cells.lookup x=some c:=by
 rcases wV h with z | ⟨k,d,f,q⟩
 ·simp at z
 ·obtain⟨m,e⟩:=wW j b ok _ d f;have e' :=e;rw[e'] at q;rw[e',<-q];rfl
def Tu{σ:St}(d:Inv X L σ P O)(j:X.env.scope=I)(ok:jD I R scope own cap)(T:Turn X.prog X.w X.K U J fp it Q)(u:Q 0 O.heap)(m:∀b∈fp,fB X L P b)
  (C:Addr) (E:O.heap.objs.size<=C):(bJ X scope C (bH R own cap) O P fp).Ok:=by
 have lt:∀b∈fp,b<O.heap.objs.size:=λb f=>by
  obtain⟨o,e,_⟩:=T.obj 0 _ u b f;exact zj e
 have rel:(relabel scope X.env).names=jC scope I:=by rw[<-j];rfl
 refine⟨d.ok.mod,ok.kind,d.ok.glob,d.ok.blt,E,λx y c h1 h2=>?_,λx hx=>?_,λx c hf _=>absurd hf (by simp[bJ]),d.ok.hd,d.ok.frames,.inl rfl,λb f=>⟨?_,λx c h=>?_⟩,d.bs,zG d.ok.bsz d.sz,
  λb o e f=>?_,λb f F=>?_,d.stack,d.stkFree⟩
 ·exact d.ok.inj x y c (km d j ok h1) (km d j ok h2)
 ·have hx':(jC scope I).lookup x=some .cell\/(jC scope I).lookup x=some .free:=by rw[<-rel];exact hx
  have G:(x,NameKind.free)∈scope.names:=by
   rcases hx' with q | q
   ·exact Es ok.nocell q (.inl rfl)
   ·exact Es ok.nocell q (.inr rfl)
  exact sV (.inr G)
 ·exact zq (zI (lt b f) E)
 ·exact(m b f).2.2.2.2.1 x c (km d j ok h)
 ·rcases(m b f).2.2.2.1 with z | z
  ·exact d.ok.noex b o e z
  ·exact absurd (zI (zj e) (zG d.ok.bsz z)) (zU _)
 ·rcases zl.mp (d.stkSub b F) with z | z
  ·exact(m b f).2.1 z
  ·exact(m b f).2.2.1 z
def Tv{σ:St}(f:Inv X pins σ H2 s2)(d:X.env.scope=sc0)(Q:X.N=N0)(ok:jD sc0 N0 scope own cap)(T:Turn X.prog X.w X.K tg J fp it tn)(O:tn 0 s2.heap)(f2:∀b∈fp,fB X pins H2 b)
  (C:Addr) (Z:s2.heap.objs.size<=C)    (E:∀b o,s2.heap.get? b=some o->h₁.get? b=some o) (P:h₁.Ns C m):
  Inv (bJ X scope C (bH N0 own cap) s2 H2 fp) [] (compSt own cap σ) H2 {s2 with heap:=h₁,toks:=tk}:=by
 have rel:(relabel scope X.env).names=jC scope sc0:=by rw[<-d];rfl
 refine⟨Tu f d ok T O f2 C Z,rfl,f.bare,Un.kept E,⟨m,P,λi x v e1 e2 _=>?_⟩,λx c h=>?_,f.hok.fresh Z,λx c h=>?_,λp hp=>absurd (show p∈[] from hp) (by simp),f.hok.kept E,?_⟩
 ·have e1':(bH N0 _ _)[i]?=some x:=e1;unfold bH at e1';unfold compSt at e2
  by_cases Y:i<own.length
  ·rw[zD (by simpa ),zE] at e2
   cases q:own[i]? with
   | none
   |some z=>rw[q] at e2;cases e2
  ·rw[zK (by simpa using Y),zE] at e2;rw[zK (by simpa using Y),zE] at e1';rw[zd] at e2
   cases q:cap[i - own.length]? with
   |none=>rw[q] at e2;cases e2
   |some j =>
    rw[q] at e1' e2;have ex:N0.getD j _=x:=zC e1';have G:σ[j]?.join=some v:=zC e2;obtain⟨W,L,U⟩:=ok.cap j (zL q);rw[ex] at L U
    have eN:X.N[j]?=some x:=by
     rw[Q,zw W];rw[jf,zw W] at ex;exact congrArg _ ex
    have R:σ[j]?=some (some v):=by
     cases z:σ[j]? with
     |none=>rw[z] at G;cases G
     |some o=>rw[z] at G;cases o with
      | none
      |some y=>exact congrArg _ G
    have kf:X.env.kindOf x=some .cell\/X.env.kindOf x=some .free:=by
     have z:=ok.free _ L rfl;rw[<-d] at z;exact z
    obtain⟨m0,hn0,hl⟩:=f.loc;obtain⟨u,r,l⟩:=hl j x v eN R (kf.elim (λz=>.inr (.inl z)) λz=>.inr (.inr z));refine⟨u,r,.inr ⟨?_,?_⟩⟩
    ·show(relabel _ _).names.lookup x=_\/(relabel _ _).names.lookup x=_;rw[rel];exact U
    ·rcases l with⟨l,_⟩ | ⟨_,c,hc,⟨o,I,hd⟩⟩
     ·rcases kf with z | z<;>(rw[z] at l;cases l)
     ·obtain⟨c',F⟩:=sV (.inr L);have z:=km f d ok F;rw[hc] at z;cases z;exact⟨c,F,o,E _ _ I,hd⟩
 ·obtain⟨v,o,I,hd⟩:=f.cell x c (km f d ok h);exact⟨v,o,E _ _ I,hd⟩
 ·exact f.freeC x c (km f d ok h)
 ·show(compSt _ _ σ).length=(bH N0 _ _).length;unfold compSt bH;simp
def Eu{σ:St}  {RR:Value->Addr->Result->Shared->Prop}  (hc:X.calm=true)(I2:Inv X pins σ H2 f)(hsc:X.env.scope=sc0)(hN0:X.N=N0)(ok:jD sc0 N0 scope own cap)
  (hg:∀C s H ex,PG (bJ X scope C (bH N0 own cap) s H ex) tg g) (ht:∀C s H ex,kj (bJ X scope C (bH N0 own cap) s H ex) ifs tt) (he:∀C s H ex,PE (bJ X scope C (bH N0 own cap) s H ex) elt te)
  (T:Turn X.prog X.w X.K tg J fp it tn) (st2:tn 0 f.heap) (f2:∀b∈fp,fB X pins H2 b) (hW:Et J g tt te Q (compSt own cap σ) H2)
  (hRR:∀D C oC ys O Z,Inv X (pins++[(C,oC)]) σ (upd O D (.lst ys)) Z->(∀h:Heap,h.get? C=some oC->∃m,h.Ns C m)->fB X pins (upd O D (.lst ys)) C->O D=none->Q ys O->RR (.ref D) C (.ok .next) Z)
  (hQsz:∀ys O,Q ys O->ys.length<=sizeLine):
  wpAny (model X.prog X.w) X.A (newList []) (λacc U=>wpAny (model X.prog X.w) X.A (newFunctionEnv scope X.env.globals (j9 scope X.env) [] X.env.qual none .none (some X.env)) (λcenv s₄ =>
   codeAny (model X.prog X.w) X.A (.compStart (.ListComp elt [⟨tg,iter,ifs,0⟩] scope pos) 0 (.ref it) acc {cenv with scope:=relabel scope X.env}) (RR acc cenv.locals) s₄) E U) E f:=by
 refine wpAny_newObj_type (wpAny_newFunctionEnv ok.nocell (by intro y hy;simp at hy) (λh₁ R G=>?_) ok.kind);dsimp only at R G ⊢
 generalize hP2:f.heap.push {cls:=.type "list",dict:=none,data:=.seq ([]:List Value).toArray}=L at R G ⊢
 have hC:L.objs.size=f.heap.objs.size+1:=by rw[<-hP2,Heap.size_push]
 have hDC:f.heap.objs.size≠L.objs.size:=by rw[hC];exact zq (jb _)
 have hCle:f.heap.objs.size<=L.objs.size:=by rw[hC];exact Nat.le_succ _
 have below:∀b,b<f.heap.objs.size->b≠L.objs.size/\b≠f.heap.objs.size:=λb F=>⟨by rw[hC];exact zq (jg F),zq F⟩
 have ltf:∀b∈fp,b<f.heap.objs.size:=λb F=>by
  obtain⟨o,e,_⟩:=T.obj 0 _ st2 b F;exact zj e
 have old:∀b o,f.heap.get? b=some o->h₁.get? b=some o:=λb o e=>G.extBut b o (below b (zj e)).1 (zo _ (hP2 ▸ zo _ e))
 have hacc:h₁.PlainList f.heap.objs.size #[]:=⟨_,G.extBut _ _ hDC (zo _ (hP2 ▸ zy _ rfl))⟩
 have st₁:tn 0 h₁:=T.keep _ _ _ st2 λb _ o e=>old b o e
 have hDno:∀b∈fp,f.heap.objs.size≠b:=λb F=>(below b (ltf b F)).2.symm
 generalize hXe:bJ X scope L.objs.size (bH N0 own cap) f H2 fp=X'
 have loop:∀U:Shared,U = {f with heap:=h₁,toks:=f.toks+([]:List (Str×Value)).length} ->
   codeAny (model X.prog X.w) X.A (.compLoop (.ListComp elt [⟨tg,iter,ifs,0⟩] scope pos) 0 (.ref it) (.ref f.heap.objs.size) (compEnvC scope (j9 scope X.env) L.objs.size X.env))
    (RR (.ref f.heap.objs.size) L.objs.size) U:=by
  rintro U rfl;obtain⟨W,⟨m0,w0⟩,turn⟩:=hW;subst hXe
  have stat:∀{O:Hp}{oD:Obj},(∀b∈fp,O b=none)->∀b∈fp,fB (bJ X scope L.objs.size (bH N0 own cap) f H2 fp) [(f.heap.objs.size,oD)] O b:=λ{O oD} hn b F =>
   ⟨hn b F,(below b (ltf b F)).1,λz=>by
    rcases zl.mp (I2.stkSub b z) with z | z
    ·exact(f2 b F).2.1 z
    ·exact(f2 b F).2.2.1 z,.inl F,λx c h=>(f2 b F).2.2.2.2.1 x c (km I2 hsc ok h),λp hp=>by
    have e:p=(f.heap.objs.size,oD):=by simpa [bJ] using hp
    rw[e];exact hDno b F⟩
  have notcell:∀x c,(j9 scope X.env).lookup x=some c->c≠f.heap.objs.size:=λx c h z=>by
   obtain⟨v,o,ho,hd⟩:=I2.cell x c (km I2 hsc ok h);exact absurd (zj ho) (by rw[z];exact zU _)
  have nofs:f.heap.objs.size∉frs X.stack:=λz=>by
   rcases zl.mp (I2.stkSub _ z) with z | z
   ·exact absurd I2.lt (by rw[z];exact zU _)
   ·exact I2.nofs (zc _) z
  have pinD:∀{P:St}{O:Hp}{Z:Shared}{j:Array Value}{k:Nat},Inv (bJ X scope L.objs.size (bH N0 own cap) f H2 fp) [] P O Z->O f.heap.objs.size=none ->
    Z.heap.get? f.heap.objs.size=some {cls:=.type "list",data:=.seq j k}->Inv (bJ X scope L.objs.size (bH N0 own cap) f H2 fp) [(f.heap.objs.size,{cls:=.type "list",data:=.seq j k})] P O Z :=
   λ{P O Z j k} I hn hd=>I.pins_of λp hp=>by
    have e:p=(f.heap.objs.size,{cls:=.type "list",data:=.seq j k}):=by simpa using hp
    subst e;exact⟨hd,hn,hDC,nofs,λv z=>by cases z⟩
  obtain⟨k0,hk0⟩:=hacc;refine Tt (env:=compEnvC scope (j9 scope X.env) L.objs.size X.env)
   (λn Z=>∃i ys j k P O,Inv (bJ X scope L.objs.size (bH N0 own cap) f H2 fp) [(f.heap.objs.size,{cls:=.type "list",data:=.seq j k})] P O Z/\tn i Z.heap/\(∀b∈fp,O b=none)/\aF ys j.toList/\W i n ys P O) ?_ m0
   ⟨0,[],#[],k0,_,H2,pinD (Tv I2 hsc hN0 ok T st2 f2 _ hCle old R) (I2.hok.fresh (zc _)) hk0,st₁,λb F=>(f2 b F).1,.nil,w0⟩
  rintro n s3 ⟨i,ys,j,k,σ3,H3,I3,st3,fr3,hv,w3⟩
  rcases turn i n ys σ3 H3 w3 with⟨stop,qn⟩ | ⟨go,hsz,N,hN,step⟩
  ·refine thn (T.done (bJ X scope L.objs.size (bH N0 own cap) f H2 fp) rfl rfl rfl hc i _ s3 σ3 H3 _ I3 (stat fr3) st3 stop) λr s4 ⟨hr,I4⟩=>?_
   subst hr;show RR _ _ (.ok .next) s4;obtain⟨hd4,Y,_⟩:=I4.pin (f.heap.objs.size,{cls:=.type "list",data:=.seq j k}) (by simp[bJ]);dsimp only at hd4 Y;obtain⟨m4,hns4,_⟩:=id I4.loc;have hns4':s4.heap.Ns L.objs.size m4:=hns4;obtain⟨oC,es,ep,hoC,rC⟩:=id hns4';have cne:L.objs.size≠f.heap.objs.size:=hDC.symm;have freeC:H3 L.objs.size=none:=I4.free;have hchC:fB X pins (upd H3 f.heap.objs.size (.lst ys)) L.objs.size:=I2.fpOk hCle (by rw[aH cne];exact freeC)
   have hlen:ys.length=j.size:=by have e:=hv.length;simpa using e
   have I5:Inv X pins σ (upd H3 f.heap.objs.size (.lst ys)) s4:=by
    refine I2.call' (ch:=fp) I4.os ⟨I4.base.keep,I4.base.slot,λb o e n hx=>?_,I4.base.there,λb xs e=>?_,λb o u e=>?_,λb ps e=>?_⟩ (λb u e=>?_) I4.bare λb F=>?_
    ·rw[aH (zq (zj e))];exact I4.base.free b o e n hx
    ·have q:=I4.base.tups b xs e;rw[aH (bV q Y)];exact q
    ·have q:=I4.base.frzs b o u e;rw[aH (bV q Y)];exact q
    ·obtain⟨more,q⟩:=I4.base.tbls b ps e;exact⟨more,by rw[aH (bV q Y)];exact q⟩
    ·by_cases F:b=f.heap.objs.size
     ·subst F;rw[bz] at e;cases e;exact⟨hQsz ys H3 qn,j.toList,k,hv,by simpa using hd4⟩
     ·rw[aH F] at e
      exact(I4.hok b u e).stay (λ_ _ _ q=>q) (λc q=>by rw[aH (bV q Y)];exact q) λc xs q=>by rw[aH (bV q Y)];exact q
    ·obtain⟨_,a2,_,a4,a5,a6⟩:=f2 b F;exact⟨a4,a2,a5,a6⟩
   refine hRR f.heap.objs.size L.objs.size oC ys H3 s4 (I5.pins_of λp hp=>?_) (λh e=>⟨m4,oC,es,ep,e,rC⟩) hchC Y qn
   rcases zB.mp hp with z | z
   ·exact I5.pin p (zS _ z)
   ·have e:p=(L.objs.size,oC):=by simpa using z
    subst e
    exact⟨hoC,hchC.1,hchC.2.1,hchC.2.2.1,λv z=>by
     have:=rC.1
     rw[this] at z;cases z⟩
  ·refine thn (T.item (bJ X scope L.objs.size (bH N0 own cap) f H2 fp) rfl rfl rfl hc i _ s3 σ3 H3 _ I3 (stat fr3) st3 go) λr s4 ⟨u,hr,h4⟩=>?_
   subst hr
   refine thn h4 λ_ s5 ⟨x,H5,I5,r5,y5,st5,fr5⟩=>?_
   have I5':=I5.pinned (stat fr5) (T.obj _ _ st5)
   refine thn (hg _ _ _ _ _ s5 σ3 H5 x u _ I5' r5 (step x H5 y5)) λ_ s6 ⟨σ6,H6,I6,q6⟩=>?_
   refine thn (ht _ _ _ _ _ s6 σ6 H6 _ I6 q6) λb s7 ⟨H7,I7,q7⟩=>?_
   have keepT:∀{P:St}{O:Hp}{Z:Shared},Inv (bJ X scope L.objs.size (bH N0 own cap) f H2 fp) ([(f.heap.objs.size,{cls:=.type "list",data:=.seq j k})]++pI fp s5.heap) P O Z->tn (i+1) Z.heap/\∀b∈fp,O b=none:=λ{P O Z} I'=>by
    refine⟨T.keep _ _ _ st5 λb F o e=>(I'.pin (b,o) (zS _ (zS _ (rZ F e)))).1,λb F=>?_⟩;obtain⟨o,e,d⟩:=T.obj _ _ st5 b F;exact(I'.pin (b,o) (zS _ (zS _ (rZ F e)))).2.1
   cases b with
   |false =>
    rw[if_neg zv] at q7 ⊢;obtain⟨m',hm,w7⟩:=hN _ _ _ q7;obtain⟨a,b⟩:=keepT I7;exact⟨m',hm,i+1,ys,j,k,σ6,H7,I7.unpinned,a,b,hv,w7⟩
   |true =>
    rw[if_pos rfl] at q7 ⊢
    refine thn (he _ _ _ _ _ s7 σ6 H7 _ I7 q7) λv s8 ⟨y,H8,I8,r8,q8⟩=>?_
    obtain⟨m',hm,w8⟩:=hN _ _ _ q8;obtain⟨a,b⟩:=keepT I8;obtain⟨hd8,hn8,_⟩:=I8.pin (f.heap.objs.size,{cls:=.type "list",data:=.seq j k}) (by simp[bJ]);dsimp only at hd8 hn8
    have hl:j.size<=sizeLine:=by
     have e:=hv.length;simp at e;omega
    refine wpAny_list_append_plain (hsz:=hl) ⟨k,hd8⟩ λh9 hl9 hs9=>?_
    obtain⟨k9,hd9⟩:=hl9
    have I8':Inv (bJ X scope L.objs.size (bH N0 own cap) f H2 fp) [] σ6 H8 s8:=I8.pins_of λp hp=>absurd hp (by simp)
    have I9:Inv (bJ X scope L.objs.size (bH N0 own cap) f H2 fp) [] σ6 H8 {s8 with heap:=h9}:=
     I8'.turned (t':=s8.toks) (it:=f.heap.objs.size) (λb o F e=>hs9.extBut b o F e) hn8 hDC (.inr (zc _)) notcell (λp hp=>absurd (show p∈([]:List (Addr×Obj)) from hp) (by simp))
    refine⟨m',hm,i+1,ys++[y],j.push v,k9,σ6,H8,pinD I9 hn8 hd9,T.keep _ _ _ a λb F o e=>hs9.extBut b o (hDno b F).symm e,b,?_,w8⟩;rw[Array.toList_push];exact hv.append (.cons r8 .nil)
 exact codeAny_compStart_list (loop _ rfl) (T.self _ 0 _ _ _ st₁ (loop _ rfl))
def Ew{u:Pos}  (d:Scope)(c own:List Str)(cap:List Nat)(hc:X.calm=true)(Y:PI X tg iter wi)
  (Z:∀C s H ex,PG (bJ X scope C (bH c own cap) s H ex) tg g) (U:∀C s H ex,kj (bJ X scope C (bH c own cap) s H ex) ifs tt) (he:∀C s H ex,PE (bJ X scope C (bH c own cap) s H ex) elt te)
  (f:X.env.scope=d:=by rfl) (F:X.N=c:=by rfl) (ok:kh d c scope own cap=true:=by decide +kernel) (hs:∀x,foldedSetIterable iter X.env x=pure x:=by intro _;rfl):
  PE X (.ListComp elt [⟨tg,iter,ifs,0⟩] scope u) (sW wi own cap g tt te):=by
 intro pins s σ H Q I h;have ok:=jD.of ok;refine wpAny_comprehension_free rfl hs (Er (wW I f ok)) ok.kind ok.names (thn (Y _ s σ H _ I h) λxv s1 h1=>thn h1 λitv s2 h2=>?_);obtain⟨it,fp,tn,J,H2,e,I2,T,j,f2,hW⟩:=h2;subst e
 refine Eu hc I2 f F ok Z U he T j f2 hW (λD C R P O s' L E G hD q=>?_) λP O q=>q.1
 obtain⟨hC⟩:=L.pin (C,R) (by simp);obtain⟨m,W⟩:=E _ hC;refine⟨m,W,λh' y=>⟨.ref D,upd O D _,?_,rfl,q.2 D hD⟩⟩;obtain⟨f0,f1,f2',f3,f4,f5⟩:=G;exact L.unpinned.turned (λb o hb e=>y.extBut b o hb e) f0 f1 f3 f4 f5
def Ex    {c:Pos}(u:Scope)(f own:List Str)(cap:List Nat)(hN:X.N.Nodup)(hx:X.N[i]?=some x)(hl:Loc X.env.scope x)(hc:X.calm=true)(hi:PI X tg iter wi)
  (hg:∀C s H ex,PG (bJ X scope C (bH f own cap) s H ex) tg g) (ht:∀C s H ex,kj (bJ X scope C (bH f own cap) s H ex) ifs tt) (he:∀C s H ex,PE (bJ X scope C (bH f own cap) s H ex) elt te)
  (L:swapsWith (.ListComp elt [⟨tg,iter,ifs,0⟩] scope pos) (some (.Name x pos')) c.line X.env=pure true:=by rfl)
  (hf:X.fn x=true\/X.env.scope.names.lookup x=some .local:=by first | exact .inl rfl | exact .inr rfl | assumption)
  (y:X.env.scope=u:=by rfl) (R:X.N=f:=by rfl) (ok:kh u f scope own cap=true:=by decide +kernel) (hs:∀x,foldedSetIterable iter X.env x=pure x:=by intro _;rfl):
  PS X (.Assign [.Name x pos'] (.ListComp elt [⟨tg,iter,ifs,0⟩] scope pos) c) (pH (sW wi own cap g tt te) (pF i)):=by
 intro pins s σ H D I h;have ok:=jD.of ok;rw[exec_Assign_Name_used _ _ _ _ L];refine za (wpAny_standAt (za ?_));show wpAny _ X.A (do let _ <-comprehension (.ListComp elt [⟨tg,iter,ifs,0⟩] scope pos) scope X.env _ (newList []) false (eval iter X.env) (some (assign (.Name x pos') X.env))) _ _ s
 refine za (zT (wpAny_comprehension_free (use:=some (assign (.Name x pos') X.env)) (Q:=λ_ d=>SP X pins D .next d) rfl hs (Er (wW I y ok)) ok.kind ok.names
  (thn (hi pins s σ H _ I h) λxv s1 h1=>thn h1 λitv s2 h2=>?_)) (λ_ d hq=>zb (zb hq)) λ_ _ e=>e)
 obtain⟨it,fp,tn,J,H2,e,I2,T,F,f2,hW⟩:=h2;subst e
 refine Eu (RR:=λW C=>compPost (model X.prog X.w) X.A X.xe (some (assign (.Name x pos') X.env)) (λ_ d=>SP X pins D .next d) W C) hc I2 y R ok hg ht he T F f2 hW (λj C oC Y Z d I' P U hD q=>?_) λY Z q=>q.1
 show wpAny _ X.A (assign (.Name x pos') X.env (.ref j)) _ _ _;refine wpAny_assign_Name (vZ (v:=.ref j) I' hN hx hl rfl (λG E=>?_) hf);obtain⟨hC,hCn,_⟩:=E.pin (C,oC) (by simp);obtain⟨m,hm⟩:=P _ hC;refine⟨m,hm,λh' O=>⟨σ.set i (some (.ref j)),upd Z j (.lst Y),?_,q.2 j hD⟩⟩;obtain⟨f0,f1,f2',f3,f4,f5⟩:=U;exact E.unpinned.turned (t':=G.toks) (it:=C) (λb o hb e=>O.extBut b o hb e) f0 f1 f3 f4 f5
inductive Can (P:Program) (w:World) (K:PySem.W.Frag) (mg:Str->Option Value) (base:Heap) (x:Str) (ps:List Str) (k:Nat) (sp:Sp):Prop
 | mk:∀f fd,mg x=some (.ref f)->PySem.W.keepIn K (.ref f)=true->Binds K fd ps []->cG P w K mg base CX0 k f fd ps sp->(∃oc od osl,K.lookup f=some ⟨oc,od,.func fd,osl⟩)->Can P w K mg base x ps k sp
def Def(K:PySem.W.Frag)(mg:Str->Option Value)(x:Str)(st:Stmt):Prop:=∃f fd,mg x=some (.ref f)/\Fun K x x st f fd
def Def.can{K:PySem.W.Frag}  {st:Stmt}    (D:Def K mg x st)(S:gj N ps (aZ st))
  (hb:∀(kV j pm:Value) (C:Option Addr) (b ct:Value) (us:List Value),us.length=ps.length->bindArgs (PySem.W.fnOf x x (dI st) (cL st) (aZ st) .none kV j pm C b ct) ⟨us,[]⟩=pure (ps.zip us))
  (len:∀vs H Q E,sp vs H Q E->vs.length=ps.length)
  (c:∀(f:Addr) (b:Value) (A:Around) (outer:List Env) (s:Shared) (H:Hp) (vs:List V) (Q:VK) (E:XK),aV k (A.deeper (envOfC x (aZ st) s.heap.objs.size f b))->sp vs H Q E ->
   ∃t,PSs (gk CX0 P w K mg base N x (aZ st) f b A outer s H E).nox (cL st) t/\t {nx:=λ_ G=>Q .non G,rt:=Q} (start N vs) H):Can P w K mg base x ps (k+1) sp:=by
 obtain⟨f,fd,y,F⟩:=D;obtain⟨q,m,_,_,_,_,_,_,d,_,lk,_⟩:=F.ex;exact⟨f,fd,y,F.kp,F.binds hb,F.ok S len λb A outer s H vs Q E u h=>c f b A outer s H vs Q E u h,q,m,d,lk⟩
def Tw{p b:Pos}(C:Can X.prog X.w X.K X.mg X.base x ps k sp)(j:aV k X.A)(G:PA X (e::es) t)(u:Gl X x:=by rfl)(d:(x == ("__debug__":Str))=false:=by decide)
  (y:starEach (e::es) X.env=(false,eval e X.env)::starEach es X.env:=by rfl) (c:(backTo b (starEach es X.env)).any (·.1)=false:=by rfl):
  PE X (.Call (.Name x p) (e::es) [] b) (pN sp [] E0 t):=by
 obtain⟨f,fd,m,q,E,F,_⟩:=C;exact Ry F j u m q E .nil lU G d y c
def Tz{p b:Pos}(C:Can X.prog X.w X.K X.mg X.base x ps k sp)(d:aV k X.A)(q:Gl X x:=by rfl)(c:(x == ("__debug__":Str))=false:=by decide):
  PE X (.Call (.Name x p) [] [] b) (pN sp [] E0 pM):=by
 obtain⟨f,fd,j,m,u,F,_⟩:=C;exact Rz F d q j m u .nil lU c
def Same.seqT{K:PySem.W.Frag}    (e:Same H b)(h:SqT K H a xs):SqT K b a xs:=by
 rcases h with(h | ⟨o,h⟩) | h
 ·exact .inl (.inl (e _ _ h))
 ·exact .inl (.inr ⟨o,e _ _ h⟩)
 ·exact .inr h
mutual
def Rep(K:PySem.W.Frag)(H:Hp):V->PyData->Prop
 |v,.none=>v=.non
 |v,.bool b=>v=.bl b
 |v,.int i=>v=.int i
 |v,.str x=>v=.str x
 |v,.list ds=>∃a c,v=.ref a/\SqL K H a c/\bR K H c ds
 |v,.tuple ds=>∃a c,v=.ref a/\SqT K H a c/\bR K H c ds
 | _,.dict _=>False
def bR(K:PySem.W.Frag)(H:Hp):List V->List PyData->Prop
 |xs,[]=>xs=[]
 |xs,d::ds=>∃x r,xs=x::r/\Rep K H x d/\bR K H r ds
end
mutual
theorem Rep.mono{K:PySem.W.Frag}  (e:Same H H'):∀(d:PyData) {v:V},Rep K H v d->Rep K H' v d
 | .none,v,h=>by rw[Rep] at h ⊢;exact h
 | .bool b,v,h=>by rw[Rep] at h ⊢;exact h
 | .int i,v,h=>by rw[Rep] at h ⊢;exact h
 | .str x,v,h=>by rw[Rep] at h ⊢;exact h
 | .list ds,v,h=>by
  rw[Rep] at h ⊢;obtain⟨a,c,h1,h2,h3⟩:=h;exact⟨a,c,h1,e.seq h2,bR.mono e ds h3⟩
 | .tuple ds,v,h=>by
  rw[Rep] at h ⊢;obtain⟨a,c,h1,h2,h3⟩:=h;exact⟨a,c,h1,e.seqT h2,bR.mono e ds h3⟩
 | .dict _,v,h=>by rw[Rep] at h;exact h.elim
theorem bR.mono{K:PySem.W.Frag}{H b:Hp}(e:Same H b):∀(ds:List PyData) {xs:List V},bR K H xs ds->bR K b xs ds
 | [],xs,h=>by rw[bR] at h ⊢;exact h
 |d::ds,xs,h=>by
  rw[bR] at h ⊢;obtain⟨x,r,h1,h2,h3⟩:=h;exact⟨x,r,h1,Rep.mono e d h2,bR.mono e ds h3⟩
end
def bR.nil{K:PySem.W.Frag} :bR K H [] []:=by rw[bR]
def bR.cons{K:PySem.W.Frag}{H:Hp}{x:V}{xs:List V}{d:PyData}{ds:List PyData}(h:Rep K H x d)(hs:bR K H xs ds):bR K H (x::xs) (d::ds):=by
 rw[bR];exact⟨x,xs,rfl,h,hs⟩
mutual
theorem Rep.reads{pins:List (Addr×Obj)}{σ:St}{H:Hp}{s:Shared}(I:Inv X pins σ H s):∀(d:PyData) {v:V}{u:Value},Rep X.K H v d->RelV v u->∃y,Reads s.heap u d y
 | .none,v,u,h,r=>by rw[Rep] at h;subst h;cases(show u=.none from r);exact⟨_,.none⟩
 | .bool b,v,u,h,r=>by rw[Rep] at h;subst h;cases(show u=.bool b from r);exact⟨_,.bool b⟩
 | .int i,v,u,h,r=>by rw[Rep] at h;subst h;obtain⟨t,rfl⟩:=(show ∃t,u=.int i t from r);exact⟨_,.int i t⟩
 | .str x,v,u,h,r=>by rw[Rep] at h;subst h;obtain⟨t,rfl⟩:=(show ∃t,u=.str x t from r);exact⟨_,.str x t⟩
 | .list ds,v,u,h,r=>by
  rw[Rep] at h;obtain⟨a,E,rfl,h2,h3⟩:=h;cases(show u=.ref a from r);obtain⟨C,c,f,_⟩:=I.list h2;obtain⟨y,q⟩:=bR.reads I ds h3 c;obtain⟨o,j,m,n,hd⟩:=f.isList;exact⟨_,.list j m hd (by simpa using q)⟩
 | .tuple ds,v,u,h,r=>by
  rw[Rep] at h;obtain⟨a,E,rfl,h2,h3⟩:=h;cases(show u=.ref a from r);obtain⟨C,c,f,_⟩:=I.tuple h2;obtain⟨y,q⟩:=bR.reads I ds h3 c;obtain⟨o,j,m,n,hd⟩:=f;exact⟨_,.tuple j m hd (by simpa using q)⟩
 | .dict _,v,u,h,r=>by rw[Rep] at h;exact h.elim
theorem bR.reads(I:Inv X pins σ H s):∀(ds:List PyData) {xs:List V}{us:List Value},bR X.K H xs ds->aF xs us->∃b,ReadsAll s.heap us ds b
 | [],xs,us,h,r=>by rw[bR] at h;subst h;cases r;exact⟨_,.nil⟩
 |d::ds,xs,us,h,r=>by
  rw[bR] at h;obtain⟨x,rest,rfl,h2,h3⟩:=h
  cases r with
  |cons r1 r2 =>
   obtain⟨b,q⟩:=Rep.reads I d h2 r1;obtain⟨bs,c⟩:=bR.reads I ds h3 r2;exact⟨_,.cons q c⟩
end
def okD(d:PyData):Bool:=d.canLay0&&decide (d.depth<=60)
def wX(K:PySem.W.Frag)(b:Bool):R2:=λx y H Q=>∃d e,Rep K H x d/\Rep K H y e/\okD d=true/\okD e=true/\Q (.bl (if b then !PyData.eqv d e else PyData.eqv d e)) H
def TF  (E:aV k X.A):OpR X (compareOp .Eq) (wX X.K false):=by
 intro pins s σ H x y v u Q I j f h;obtain⟨d,e,h1,h2,c,b,q⟩:=h;obtain⟨F,C⟩:=Rep.reads I d h1 j;obtain⟨bs,m⟩:=Rep.reads I e h2 f;unfold okD at c b;simp   at c b;exact SeqAt.compareEq_reads C m c.1 b.1 (by have:=E.units;omega) ⟨.bl _,H,I,rfl,q⟩
def Ey  (E:aV k X.A):OpR X (compareOp .NotEq) (wX X.K true):=by
 intro pins s σ H x y v u Q I j f h;obtain⟨d,e,h1,h2,c,b,q⟩:=h;obtain⟨F,C⟩:=Rep.reads I d h1 j;obtain⟨bs,m⟩:=Rep.reads I e h2 f;unfold okD at c b;simp   at c b;exact SeqAt.compareNe_reads C m c.1 b.1 (by have:=E.units;omega) ⟨.bl _,H,I,rfl,q⟩
def S(l:List Nat):Str:=⟨l.toArray⟩
def lV(l:List Nat):(S l).cps.toList=l:=by simp[S]
def gJ(l:List Nat):(S l).length=l.length:=by simp[S,Str.length]
def TJ(x:Str):S x.cps.toList=x:=by simp[S]
def TQ(a b:List Nat):S a++S b=S (a++b):=by
 show Str.mk _=Str.mk _;simp[S]
def pQ  (h:S a=S b):a=b:=by have:=congrArg (λx =>x.cps.toList) h;simpa [lV]
def TV:OpR X (compareOp .LtE) (λx y H Q=>∃i j,x=.str i/\y=.str j/\Q (.bl (!decide (j.cps.toList<i.cps.toList))) H):=by
 intro pins s σ H x y v u Q I c b h;obtain⟨i,j,rfl,rfl,q⟩:=h;obtain⟨t,rfl⟩:=c;obtain⟨d,rfl⟩:=b;exact P.le_str ⟨.bl _,H,I,rfl,q⟩
def TY:OpR X (compareOp .In) (λx y H Q=>∃c l,x=.str (S [c])/\y=.str (S l)/\Q (.bl (decide (c∈l))) H):=by
 intro pins s σ H x y v u Q I d b h;obtain⟨c,l,rfl,rfl,q⟩:=h;refine QX pins s σ H _ _ v u Q I d b ⟨S [c],S l,rfl,rfl,?_⟩;have e:=PySem.StrLaws.found_one (S l) c;rw[lV] at e;show Q (.bl (!(Builtin.Str.occurrences (S l) (S [c]) 0 (S l).length 1).isEmpty)) H;rw[show S [c]=⟨#[c]⟩ from rfl,e];exact q
def Its(l:List Nat):It:=⟨λi _=>i<l.length,λi H x b=>b=H/\∃c,l[i]?=some c/\x=.str (S [c]),λi _=>l.length<=i⟩
def T3   {K:PySem.W.Frag}  (l:List Nat)(it:Addr)(t:Tok):Turn P w K tg (Its l) [it] it (λi h=>h.IsStrIter it "str_ascii_iterator" (S l) t i) where
 mem:=by simp
 obj:=λi h st b hb=>by
  have e:b=it:=by simpa using hb
  subst e;obtain⟨o,e,c,d⟩:=st;exact⟨o,e,λv z=>by rw[d] at z;cases z⟩
 keep:=λi h h' st k=>let ⟨o,ho,r⟩:=st;⟨o,k it (by simp) o ho,r⟩
 item:=by
  intro X hP hw hK hc i pins s σ H E I hf st hg;subst hP hw hK;obtain⟨f0,f1,f2,f3,f4,f5⟩:=hf it (by simp);have hg':i<l.length:=hg
  refine wpAny_pyNext_ascii_item st (c:=l[i]) (by simp[S,hg']) λh' st' sb=>?_
  have I1:Inv X pins σ H {s with heap:=h',toks:=s.toks+1}:=I.turned (λb o hb e=>(sb.2 b hb).trans e) f0 f1 f3 f4 f5;obtain⟨o,e,c,d⟩:=id st';exact⟨_,rfl,mZ (s:={s with heap:=h',toks:=s.toks+1}) e c d (by decide) ⟨.str (S [l[i]]),H,I1,⟨_,rfl⟩,⟨rfl,l[i],by simp[hg'],rfl⟩,st',λb hb=>(hf b hb).1⟩⟩
 done:=by
  intro X hP hw hK hc i pins s σ H E I hf st hg;subst hP hw hK;obtain⟨f0,f1,f2,f3,f4,f5⟩:=hf it (by simp);have hg':l.length<=i:=hg
  exact wpAny_pyNext_ascii_end (I.ok.hd hc) st (by simp[S,hg']) λh' eb=>⟨rfl,I.turned (t':=s.toks) (λb o hb e=>eb b o hb e) f0 f1 f3 f4 f5⟩
 self:=λ_ _ _ _ _ st h=>wpAny_pyIter_striter_ascii st h
def ascii(l:List Nat):Bool:=l.all (· < 128)
def T4(tl:TE):TI:=λσ H R=>tl σ H λx b=>∃l,x=.str (S l)/\ascii l=true/\R (Its l) b
def T5   (c:PE X e tl):PI X j e (T4 tl):=by
 intro pins s σ H R I h
 refine thn (c _ s σ H _ I h) λv s1 ⟨x,H1,I1,r1,q1⟩=>?_
 obtain⟨l,e,f,q⟩:=q1;subst e;obtain⟨t,rfl⟩:=r1;refine wpAny_pyIter_ascii (by simpa [S,ascii] using f) ?_;refine⟨s1.heap.objs.size,[s1.heap.objs.size],_,_,H1,rfl,I1.kept λb o e=>zo _ e,T3 l _ t,⟨_,zy _ rfl,rfl,rfl⟩,λb d=>?_,q⟩
 have e :=by simpa using d
 subst e;exact I1.fpOk (zc _) (I1.hok.fresh (zc _))
def T6(J:X.calm=true):fK X (.builtin "all") (λxs H Q=>∃(a:Addr) (bs:List Bool),xs=[.ref a]/\SqL X.K H a (bs.map V.bl)/\Q (.bl (bs.all id)) H):=by
 intro pins s σ H xs P Q I r h;obtain⟨a,bs,rfl,O,q⟩:=h;obtain⟨u,rfl,j⟩:=vals1 r;cases j;obtain⟨c,f,p,T⟩:=I.list O;refine call_all_walk (wpAny_pyIter_list p.isList ?_);have y:a≠s.heap.objs.size:=zq (zj p.isList.choose_spec.1)
 refine⟨s.heap.objs.size,_,_,c.toArray.size,_,_,λi=>bs.getD i true,rfl,Walks.list (A:=X.A.in1) (I.ok.hd J) s.heap.objs.size a y c.toArray,
  ⟨⟨_,zy _ rfl,rfl,rfl⟩,p.isList.at λo e=>zo _ e⟩,λi v R W Y C F=>?_,λU tk G=>?_⟩
 ·have L:(bs.map V.bl)[i]?=some (V.bl (bs.getD i true)):=by
   have d:i<c.length:=by
    have z:=Array.getElem?_eq_some_iff.mp C;simpa using z.1
   have m:=f.length;rw[zd] at m;rw[zE,zw (by omega),jf,zw (by omega)];rfl
  obtain⟨u,E,j⟩:=f.get L
  have hv':c[i]?=some v:=by simpa using C
  rw[hv'] at E;cases E;cases(show v=.bool _ from j);exact wpAny_truthy_bool F
 ·refine⟨.bl (bs.all id),H,I.kept λb o e=>G b o (λz=>?_) (zo _ e),?_,q⟩
  ·have z':b=s.heap.objs.size:=by simpa using z
   exact absurd (zj e) (by rw[z'];exact zU _)
  ·have m:c.length=bs.length:=by have:=f.length;rw[zd] at this;exact this.symm
   have e:(List.range c.toArray.size).all (λi=>bs.getD i true)=bs.all id:=by
    rw[zF,m];rw[Bool.eq_iff_iff,jc,jc];constructor
    ·intro h x hx;obtain⟨i,d,rfl⟩:=List.mem_iff_getElem.mp hx
     have:=h i (List.mem_range.mpr d)
     rw[jf,zw d] at this;exact this
    ·intro h i d;have hi':=List.mem_range.mp d;rw[jf,zw hi'];exact h _ (jh hi')
   show Value.bool _=Value.bool _;rw[e]
def T7(U:X.calm=true):fK X (.builtin "sum") (λxs H Q=>∃(a:Addr) (ns:List Int),xs=[.ref a]/\SqL X.K H a (ns.map V.int)/\(∀n∈ns,0<=n/\n<=1000000)/\ns.length<=1000000/\Q (.int ns.sum) H):=by
 intro pins s σ H xs us Q I r h;obtain⟨a,ns,rfl,W,J,Z,q⟩:=h;obtain⟨u,rfl,f⟩:=vals1 r;cases f;obtain⟨c,C,p,hz⟩:=I.list W;have y:a≠s.heap.objs.size:=zq (zj p.isList.choose_spec.1)
 have R:c.length=ns.length:=by have:=C.length;rw[zd] at this;exact this.symm
 have pre:∀j,j<=ns.length->preSum (λi=>ns.getD i 0) j=(ns.take j).sum/\0<=preSum (λi=>ns.getD i 0) j/\preSum (λi=>ns.getD i 0) j<=(j:Int) * 1000000:=by
  intro j
  induction j with
  |zero=>intro _;simp[preSum]
  |succ j ih =>
   intro G;obtain⟨e,l1,O⟩:=ih (by omega)
   have hj':j<ns.length:=by omega
   have P:=J ns[j] (jh hj')
   have m:ns.getD j 0=ns[j]:=by rw[jf,zw hj'];rfl
   have Y:preSum (λi=>ns.getD i 0) (j+1)=preSum (λi=>ns.getD i 0) j+ns[j]:=by
    rw[<-m];rfl
   refine⟨?_,by omega,by omega⟩;rw[Y,e,List.take_succ_eq_append_getElem hj',List.sum_append];simp
 refine call_sum_walk (wpAny_pyIter_list p.isList ?_)
 refine⟨s.heap.objs.size,_,_,c.toArray.size,_,_,λi=>ns.getD i 0,rfl,Walks.list (A:=X.A.in1) (I.ok.hd U) s.heap.objs.size a y c.toArray,
  ⟨⟨_,zy _ rfl,rfl,rfl⟩,p.isList.at λo e=>zo _ e⟩,λb d=>?_,λi v E=>?_,λj G=>?_,λh' tk L T=>?_⟩
 ·have x:({s with heap:=s.heap.push {cls:=.type "list_iterator",data:=.fields #[.ref a,.int 0 0]}}:Shared).heap.objs.size=s.heap.objs.size+1:=Heap.size_push ..;rw[x]
  have z:b=s.heap.objs.size\/b=a:=by simpa using d
  have ha':a<s.heap.objs.size:=zj p.isList.choose_spec.1
  rcases z with z | z
  ·rw[z];exact jb _
  ·rw[z];exact jg ha'
 ·have hi:i<c.length:=by
   have z:=Array.getElem?_eq_some_iff.mp E;simpa using z.1
  have d:(ns.map V.int)[i]?=some (V.int (ns.getD i 0)):=by
   rw[zE,zw (by omega),jf,zw (by omega)];rfl
  obtain⟨u,F,f⟩:=C.get d
  have hv':c[i]?=some v:=by simpa using E
  rw[hv'] at F;cases F;exact f
 ·rw[zF] at G
  have hj':j<ns.length:=by omega
  have P:=J ns[j] (jh hj')
  have m:ns.getD j 0=ns[j]:=by rw[jf,zw hj'];rfl
  obtain⟨_,l1,O⟩:=pre (j+1) (by omega);unfold InLong;dsimp only;rw[m]
  constructor<;>constructor<;>omega
 ·obtain⟨e,_,_⟩:=pre ns.length (zc _);rw[List.take_length] at e;refine⟨.int ns.sum,H,I.kept λb o e=>T b o (λz=>?_) (zo _ e),⟨L,?_⟩,q⟩
  ·have z':b=s.heap.objs.size:=by simpa using z
   exact absurd (zj e) (by rw[z'];exact zU _)
  ·rw[zF,R,e]
structure Blt(mg:Str->Option Value):Prop where
 len_:mg "len" = none
 isinstance_:mg "isinstance" = none
 all_:mg "all" = none
 sum_:mg "sum" = none
 max_:mg "max" = none
 min_:mg "min" = none
 int_:mg "int" = none
 str_:mg "str" = none
 bool_:mg "bool" = none
 list_:mg "list" = none
 tuple_:mg "tuple" = none
 dict_:mg "dict" = none
 range_:mg "range" = none
 enumerate_:mg "enumerate" = none
 zip_:mg "zip" = none
def Ez   {b:Pos}(h:∃u,X.mg x=some u/\RelV v u)(d:Gl X x:=by rfl)(hd:(x == ("__debug__":Str))=false:=by decide):PE X (.Name x b) (tC v):=by
 obtain⟨u,c,r⟩:=h;exact O7 d c r hd
def cz{α:Type}(l:List α)(b c:Option Int):List α:=(l.drop (HT.sIx l.length 0 b)).take (HT.sIx l.length l.length c - HT.sIx l.length 0 b)
def T8(l:List Nat)(b c:Option Int):Txt.slice (S l) b c=S (cz l b c):=by
 obtain⟨h1,h2,h3⟩:=Ed b c _
 have e:Builtin.Str.strSliceIndices b c 1 (S l).length=(List.range (HT.sIx l.length l.length c - HT.sIx l.length 0 b)).map (HT.sIx l.length 0 b + ·):=by
  show sliceRange (sliceBounds b c none l.length).1 (sliceBounds b c none l.length).2.1 (sliceBounds b c none l.length).2.2=_;rw[h1,h2,h3,sliceRange_one]
 unfold Txt.slice;rw[e,pick_run]
 split
 ·rename_i h
  have j :=by simpa [gJ] using h
  have f:HT.sIx _ _ c<=l.length:=HT.sIx_le _ _ (zc _) c;have d:HT.sIx _ 0 b<=l.length:=HT.sIx_le _ _ (Nat.zero_le _) b
  have h0:HT.sIx l.length 0 b=0:=by omega
  have h1:HT.sIx l.length l.length c=l.length:=by omega
  unfold cz;rw[h0,h1];simp
 ·rfl
def T9:V->Option Int->Option Int->Hp->VK->Prop:=λx b c H Q=>∃l,x=.str (S l)/\l.length<=sizeLine/\Q (.str (S (cz l b c))) H
def part_of   (p:IsPart v o):∃q:Option (Int×Tok),v=partValue q/\q.map (·.1)=o:=by
 cases p with
 |none=>exact⟨none,rfl,rfl⟩
 |int i t=>exact⟨some (i,t),rfl,rfl⟩
def Ua:SlR X T9:=by
 intro pins s σ H x v vl G c d sl Q I j hs u m h;obtain⟨l,rfl,y,q⟩:=h;obtain⟨t,rfl⟩:=j;obtain⟨L,rfl,E⟩:=part_of u;obtain⟨J,rfl,C⟩:=part_of m;refine⟨"str",_,F.slot_str_getitem.lookup,typeIs_str _ _ _,?_⟩;refine wpAny_getItem_str_slice (st:=none) hs rfl ?_;unfold sliceMade slicePicked;rw[E,C];refine post_val_or_str ⟨?_,λb k=>?_⟩
 ·exact zG (Txt.slice_le _ _ _) (by exact y)
 ·have f:=T8;unfold Txt.slice at f;show EP X _ σ Q (.str (if(1 == 1&&(Builtin.Str.strSliceIndices c d 1 _).length == (S l).length)=true then S l else⟨((Builtin.Str.strSliceIndices c d 1 _).filterMap _).toArray⟩) b) _;rw[f];exact⟨.str _,H,I.tok k,⟨b,rfl⟩,q⟩
namespace HT2
def getItem_tuple_whole         {b:Option Int}  (c:IsTup s.heap t items)(hs:s.heap.IsSliceOf sl vl G .none)(pl:IsPart vl b)(y:IsPart G F)
  (u:HT.sIx items.size 0 b=0/\HT.sIx items.size items.size F=items.size) (h:Q (.ref t) s):wpAny (model prog w) A (getItem (.ref t) (.ref sl)) Q E s:=by
 obtain⟨os,f,m,C⟩:=id hs;have q:s.TypeIs (.ref sl) "slice":=⟨os,f,m⟩;unfold getItem
 try with_reducible refine zP ?_
 refine za (wpAny_sequenceKey c.typeIs (by decide) ?_)
 refine za (wpAny_callSpecial?_slot c.typeIs PyProof.Rows.slot_tuple_getitem
  (wpAny_call_entry PyProof.Rows.slot_tuple_getitem c.typeIs entry_tuple_getitem ?_))
 show wpAny _ _ (Builtin.Tuple.tupleItemsOf (.ref t) >>= _) _ _ s;refine za (tupleItemsOf_ c ?_);refine za (wpAny_typeOf q ?_);refine za (HT.sliceApplied_gen hs pl y ?_)
 have d:(((HT.sIx items.size 0 b:Nat):Int) == 0&&(1:Int) == 1&&(HT.sIx items.size items.size F - HT.sIx items.size 0 b) == items.size)=true:=by
  rw[u.1,u.2];simp
 show wpAny _ _ (if(((HT.sIx _ 0 b:Nat):Int) == 0&&(1:Int) == 1&&(HT.sIx _ _ F - HT.sIx _ 0 b) == items.size)=true then _ else _) _ _ s;rw[if_pos d]
 have j:∀{x:Around}{E'}{Q'},Q' true s->wpAny (model prog w) x (Builtin.Tuple.tupleIsExact (.ref t)) Q' E' s:=λ{x E' Q'} hq=>by
  exact za (wpAny_typeOf c.typeIs (zb hq))
 refine za (j ?_);exact za (zY (zb ⟨_,rfl,zb h⟩))
end HT2
def Ub(K:PySem.W.Frag):V->Option Int->Option Int->Hp->VK->Prop:=λx c d H Q=>∃a b,x=.ref a/\SqT K H a b /\
 ((HT.sIx b.length 0 c=0/\HT.sIx b.length b.length d=b.length)->Q (.ref a) H)/\(¬(HT.sIx b.length 0 c=0/\HT.sIx b.length b.length d=b.length)->∀p,H p=none->Q (.ref p) (upd H p (.tup (lQ b c d))))
def Uc(K:PySem.W.Frag)(G:X.K=K:=by rfl):SlR X (Ub K):=by
 subst G;intro pins s σ H x v vl C q y sl Q I f hs m j h;obtain⟨a,b,rfl,hx,F,E⟩:=h
 by_cases c:HT.sIx b.length 0 q=0/\HT.sIx b.length b.length y=b.length
 ·cases f;obtain⟨d,r,u,J⟩:=I.tuple hx
  have hlen:d.toArray.size=b.length:=by exact r.length.symm
  exact⟨"tuple",_,PyProof.Rows.slot_tuple_getitem.lookup,u.typeIs,HT2.getItem_tuple_whole u hs m j (by rw[hlen];exact c) ⟨.ref a,H,I,rfl,F c⟩⟩
 ·exact RX _ s σ H _ v vl C q y sl Q I f hs m j ⟨a,b,rfl,hx,c,E c⟩
inductive TyQ (K:PySem.W.Frag) (H:Hp):V->String->Prop where
 | non:TyQ K H .non "NoneType"
 | bl (x:Bool):TyQ K H (.bl x) "bool"
 | int (i:Int):TyQ K H (.int i) "int"
 | str (x:Str):TyQ K H (.str x) "str"
 | lst {a:Addr}{xs:List V} (e:SqL K H a xs):TyQ K H (.ref a) "list"
 | tup {a:Addr}{xs:List V} (e:SqT K H a xs):TyQ K H (.ref a) "tuple"
 | dK {a:Addr}{kvs:List (Key×V)} (e:H a=some (.dK kvs)):TyQ K H (.ref a) "dict"
def Ud(K:PySem.W.Frag):List V->Hp->VK->Prop:=λc H Q=>∃x n t b,c=[x,.ty n]/\TyQ K H x t/\PySem.W.kitOne K (.type t) (.type n)=some b/\Q (.bl b) H
def Ue(K:PySem.W.Frag)(F:X.K=K:=by rfl):fK X (.builtin "isinstance") (Ud K):=by
 subst F;intro pins s σ H C G Q I r h;obtain⟨x,n,t,b,rfl,ty,e,q⟩:=h;obtain⟨u,c,rfl,d,E⟩:=vals2 r;cases(E)
 have fin:∀tk,EP X _ σ Q _ _:=λtk=>⟨.bl b,H,I.tok tk,rfl,q⟩
 cases ty with
 |non=>exact pK I d .non e fin
 |bl y=>exact pK I d (.bl y) e fin
 |int i=>exact pK I d (.int i) e fin
 |str y=>exact pK I d (.str y) e fin
 | @lst a C ea =>
  cases(d);obtain⟨m,_,p,_⟩:=I.list ea;obtain⟨o,f,j,_⟩:=p.isList;exact PySem.W.kia_one PySem.W.kitx_list I.kIn ⟨o,f,j⟩ e (λz=>nomatch z) fin
 | @tup a C ea =>
  cases(d);obtain⟨m,_,p,_⟩:=I.tuple ea;obtain⟨o,f,j,_⟩:=p;exact PySem.W.kia_one PySem.W.kitx_tuple I.kIn ⟨o,f,j⟩ e (λz=>nomatch z) fin
 | @dK a kvs ea=>exact pK I d (.dK ea) e fin
def Ug(K:PySem.W.Frag)(n:String):PySem.W.kitOne K (.type n) (.type n)=some true:=by
 unfold PySem.W.kitOne;rw[if_pos (beq_self_eq_true _)]
theorem sX:∀{ds:List PyData},(∀d∈ds,d.canLay0=true)->PyData.canLayAll0 ds=true
 | [],_=>rfl
 |d::ds,h=>by rw[PyData.canLayAll0,h d ze,sX λx hx=>h x (zp _ hx)];rfl
theorem sY :∀{ds:List PyData},(∀d∈ds,d.depth<=n)->PyData.depthAll ds<=n
 | [],_=>by exact Nat.zero_le _
 |d::ds,h=>by
  exact Nat.max_le.mpr ⟨h d ze,sY λx hx=>h x (zp _ hx)⟩
def Uh  (b:n<60)  (h:∀d∈ds,d.canLay0=true/\d.depth<=n):okD (.list ds)=true:=by
 unfold okD;rw[zx];refine⟨?_,zu ?_⟩
 ·exact sX λd hd=>(h d hd).1
 ·show PyData.depthAll ds+1<=60
  have:=sY λd hd=>(h d hd).2
  omega
theorem EY:∀{ls:List (List Nat)}{us:List Value},aF (ls.map λl=>V.str (S l)) us->StrsAre us (ls.map S)
 | [],us,r=>by rw[zX] at r;cases r;exact .nil
 |l::ls,us,r=>by
  rw[zg] at r
  cases r with
  |cons r1 r2 =>
   obtain⟨t,e⟩:=r1;subst e;exact .cons _ t (EY r2)
theorem Fb:∀(ls:List (List Nat)) (a:Array Nat),(ls.map S).foldl (λb p=>b++(S []).cps++p.cps) a=a++ls.flatten.toArray
 | [],a=>by simp
 |l::ls,a=>by
  rw[zg,List.foldl_cons,Fb ls];simp[S]
def Ui(ls:List (List Nat)):Txt.join (S []) (ls.map S)=S ls.flatten:=by
 show Builtin.Str.glued (S []) (ls.map S)=_;unfold Builtin.Str.glued
 cases ls with
 |nil=>rfl
 |cons l ls =>
  show Str.mk ((ls.map S).foldl (λb p=>b++(S []).cps++p.cps) (S l).cps)=_;rw[Fb];simp[S]
def rJoin(K:PySem.W.Frag):V->List V->Hp->VK->Prop:=λx b H Q=>∃(p:Addr) (ls:List (List Nat)),x=.str (S [])/\b=[.ref p]/\SqL K H p (ls.map λl=>V.str (S l))/\(ls.map List.length).sum<=1000000/\Q (.str (S ls.flatten)) H
def Uj(K:PySem.W.Frag)(C:X.K=K:=by rfl):MtR X "str.join" (rJoin K):=by
 subst C;intro pins s σ H x F v G Q I c j h;obtain⟨p,ls,rfl,rfl,y,J,q⟩:=h;obtain⟨t,rfl⟩:=c;obtain⟨u,rfl,f⟩:=vals1 j;cases f;obtain⟨E,d,m,_⟩:=I.list y
 refine join_list m.isList (ys:=ls.map S) (by simpa using EY d) ?_ λb k=>⟨.str (S ls.flatten),H,I.tok k,⟨b,?_⟩,q⟩
 ·have e:((ls.map S).map (·.length)).sum=(ls.map List.length).sum:=by
   rw[zR];exact congrArg List.sum (jd λl _=>gJ l)
  rw[e,gJ];simp only[zW,Nat.mul_zero];omega
 ·rw[Ui]
def Uk:V->List V->Hp->VK->Prop:=λx b H Q=>∃l m,x=.str (S l)/\b=[.str (S m)]/\Q (.bl (decide (l.take m.length=m))) H
def Ul(l m:List Nat):Txt.startswith (S l) (S m)=decide (l.take m.length=m):=by
 unfold Txt.startswith;rw[StrLaws.subAt_eq,lV,lV,gJ,gJ,List.drop_zero,Bool.eq_iff_iff,zx,decide_eq_true_eq,decide_eq_true_eq,beq_iff_eq];constructor
 ·exact λh=>h.2
 ·intro h;refine⟨?_,h⟩
  have:=congrArg List.length h
  rw[List.length_take] at this;omega
def Um:R2:=λx y H Q=>∃(l:List Nat) (n:Int),x=.str (S l)/\y=.int n/\-1000000<n/\n<1000000/\l.length * n.toNat<=16777216/\Q (.str (S (List.replicate n.toNat l).flatten)) H
theorem Fd(l:List Nat):∀(n:Nat) (a:Array Nat),(List.replicate n (S l).cps).foldl (· ++ ·) a=a++(List.replicate n l).flatten.toArray
 | 0,a=>by simp
 |n+1,a=>by
  rw[List.replicate_succ,List.foldl_cons,Fd l n,List.replicate_succ,List.flatten_cons];simp[S]
def Uo:OpR X (binaryOp .Mult) Um:=by
 intro pins s σ H x y v u Q I d c h;obtain⟨l,n,rfl,rfl,h1,h2,h3,q⟩:=h;obtain⟨t,rfl⟩:=d;obtain⟨E,rfl⟩:=c;have hs:sizeLine=16777216:=sizeLine_eq
 by_cases j:n<1
 ·have C:n.toNat=0:=by omega
  rw[C] at q;exact P.mul_str_none j (by omega) ⟨.str (S []),H,I.tok _,⟨s.toks,rfl⟩,q⟩
 refine P.mul_str ?_ (λ_ _=>?_) (λ_ _=>?_) ?_
 ·rw[zk (by omega),zk (by omega)];rfl
 ·rw[gJ];intro f
  have h4:(l.length:Int) * n<=16777216:=by
   have:((l.length * n.toNat:Nat):Int)<=16777216:=by omega
   rw[Int.natCast_mul,Int.toNat_of_nonneg (by omega)] at this;exact this
  have m:(2 ^ 63 - 1) / n<(l.length:Int):=f;have F:=(Int.ediv_lt_iff_lt_mul (show 0<n by omega)).mp m;omega
 ·rw[gJ];unfold Builtin.Str.tooLong;exact zk (by omega)
 ·rw[if_neg (by omega)]
  by_cases b:(n == 1 || (S l).length == 0)=true
  ·rw[if_pos b]
   have e:(List.replicate n.toNat l).flatten=l:=by
    rw[Bool.or_eq_true,beq_iff_eq,beq_iff_eq,gJ] at b
    rcases b with z | z
    ·rw[z];show(List.replicate 1 l).flatten=l;simp
    ·have z':=List.eq_nil_of_length_eq_zero z;subst z';rw[List.flatten_eq_nil_iff];intro x hx;exact(List.mem_replicate.mp hx).2
   rw[e] at q;exact⟨.str (S l),H,I,⟨t,rfl⟩,q⟩
  ·rw[if_neg b,Fd];refine⟨?_,.str (S (List.replicate n.toNat l).flatten),H,I.tok _,⟨s.toks,?_⟩,q⟩
   ·show(#[]++(List.replicate n.toNat l).flatten.toArray).size<=sizeLine;simp only[Array.size_append,zF,List.length_flatten,List.map_replicate,List.sum_replicate_nat];simp;rw[Nat.mul_comm];omega
   ·congr 1;simp[S]
def Up:MtR X "str.startswith" Uk:=by
 intro pins s σ H x f v j Q I b d h;obtain⟨l,m,rfl,rfl,q⟩:=h;obtain⟨t,rfl⟩:=b;obtain⟨u,rfl,c⟩:=vals1 d;obtain⟨y,rfl⟩:=c;exact SC.startswith ⟨.bl _,H,I,rfl,by rw[Ul];exact q⟩
inductive D where
 | non | bl (b:Bool) | int (i:Int) | str (l:List Nat) | lst (ds:List D) | tup (ds:List D) | dic (ks vs:List D) | ob (n:Nat)
inductive Ob where
 | ins (c:Str) (fs:List (Str×D))
 | ml (ds:List D)
 | dt (kvs:List (List Key×D))
 | df (kvs:List (List Key×D))
 | dk (kvs:List (Key×D))
 | kf (kvs:List (Key×D))
 | xc (c:Str) (fs:List (Str×D))
 | gone
 | dn (kvs:List (NK×D))
 | nf (kvs:List (NK×D))
abbrev au:=List Ob
abbrev aM:=List (Option D)
structure Xc where
 cls:Str
 fs:List (Str×D)
inductive Res (α:Type) where
 | ok (a:α) (O:au) | ex (x:Xc) (O:au) | no
inductive Fl where
 | nx (ρ:aM) (O:au) | rt (d:D) (O:au) | bk (ρ:aM) (O:au) | ct (ρ:aM) (O:au) | ex (x:Xc) (O:au) | no
abbrev M(α:Type):=aM->au->Res α
abbrev MS:=aM->au->Fl
noncomputable def Res.bind  (r:Res α)(f:α->au->Res β):Res β:=match r with
 | .ok a O=>f a O
 | .ex x O=>.ex x O
 | .no=>.no
def Res.bind_ok  {r:Res α}{f:α->au->Res β}{b:β}  (h:r.bind f=.ok b O'):∃a O,r=.ok a O/\f a O=.ok b O':=by
 cases r with
 |ok a O=>exact⟨a,O,rfl,h⟩
 |ex x O=>cases h
 |no=>cases h
def wY:Expr->Bool
 | .Starred _ _=>false
 | _=>true
def bZ    (h:wY e=true):starEach (e::es) env=(false,eval e env)::starEach es env:=by
 cases e<;>first | rfl | cases h
theorem cP  :∀{es:List Expr},es.all wY=true->(backTo pos (starEach es env)).any (·.1)=false
 | [],_=>by simp[starEach,backTo]
 |e::es,h=>by
  rw[List.all_cons,zx] at h;rw[bZ h.1];show(false || (backTo _ _).any _)=false;rw[cP h.2];rfl
def nj   (h:wY e=true):starEach [e] env=[(false,eval e env)]:=by rw[bZ h];simp[starEach]
abbrev Frag:=PySem.W.Frag
def sZ:Key->D
 | .inl i=>.int i
 | .inr x=>.str x.cps.toList
def RdK(K:Frag)(H:Hp)(a:Addr)(xs:List V):Prop:=Rd H a (.lst xs)\/∃(b:List Value) (n:Nat),K.lookup a=some {cls:=.type "list",data:=.seq b.toArray n}/\b.length<=sizeLine/\aF xs b
def RdK.sq{K:Frag}    (h:RdK K H a xs):SqL K H a xs:=by
 rcases h with h | ⟨b,n,h1,h2,h3⟩
 ·exact .inl h
 ·exact .inr ⟨_,b.toArray,n,h1,rfl,rfl,rfl,by simpa ,by simpa ⟩
def RdK.ok   {σ:St}     (h:RdK X.K H a xs)(I:Inv X c σ H s):xs.length<=sizeLine/\∃(b:List Value) (n:Nat),aF xs b/\s.heap.get? a=some {cls:=.type "list",data:=.seq b.toArray n}:=by
 rcases h with h | ⟨b,n,h1,h2,h3⟩
 ·exact h.ok I.hok
 ·exact⟨by rw[h3.length];exact h2,b,n,h3,I.kIn a _ h1⟩
def TqT(K:Frag)(F:Hp)(a:Addr)(xs:List V):Prop :=
 F a=some (.tup xs)\/∃(o:Obj) (b:Array Value) (n:Nat),K.lookup a=some o/\o.cls=.type "tuple"/\o.data=.seq b n/\b.size<=sizeLine/\aF xs b.toList
def TqT.sq{K:Frag}    (h:TqT K F a xs):SqT K F a xs:=h.imp .inl id
mutual
def Rp(K:Frag)(F:Hp)(f:List Addr):V->D->Prop
 |v,.non=>v=.non
 |v,.bl b=>v=.bl b
 |v,.int i=>v=.int i
 |v,.str l=>v=.str (S l)
 |v,.lst ds=>∃a d,v=.ref a/\RdK K F a d/\Rps K F f d ds
 |v,.tup ds=>∃a d,v=.ref a/\TqT K F a d/\Rps K F f d ds
 |v,.dic ks vs=>∃(a:Addr) (c:List (Key×V)),v=.ref a/\F a=some (.dK c)/\ks=c.map (λp=>sZ p.1)/\Rps K F f (c.map (·.2)) vs
 |v,.ob n=>∃a,v=.ref a/\f[n]?=some a
def Rps(K:Frag)(F:Hp)(b:List Addr):List V->List D->Prop
 |xs,[]=>xs=[]
 |xs,d::ds=>∃x r,xs=x::r/\Rp K F b x d/\Rps K F b r ds
end
section
variable {K:Frag}{F F':Hp}{as as':List Addr}
def Rd.mono    (e:Same H b)(h:Rd H a u):Rd b a u:=by
 rcases h with h | ⟨o,h⟩
 ·exact .inl (e _ _ h)
 ·exact .inr ⟨o,e _ _ h⟩
def RdK.mono{K:Frag}    (e:Same H b)(h:RdK K H a xs):RdK K b a xs:=h.imp (λz=>z.mono e) id
mutual
theorem Rp.mono(e:Same F F')(c:∀(n:Nat) (a:Addr),as[n]?=some a->as'[n]?=some a):∀(d:D) {v:V},Rp K F as v d->Rp K F' as' v d
 | .non,v,h=>by rw[Rp] at h ⊢;exact h
 | .bl b,v,h=>by rw[Rp] at h ⊢;exact h
 | .int i,v,h=>by rw[Rp] at h ⊢;exact h
 | .str x,v,h=>by rw[Rp] at h ⊢;exact h
 | .lst ds,v,h=>by
  rw[Rp] at h ⊢;obtain⟨a,f,h1,h2,h3⟩:=h;exact⟨a,f,h1,h2.mono e,Rps.mono e c ds h3⟩
 | .tup ds,v,h=>by
  rw[Rp] at h ⊢;obtain⟨a,f,h1,h2,h3⟩:=h;exact⟨a,f,h1,h2.imp (e _ _) id,Rps.mono e c ds h3⟩
 | .dic ks vs,v,h=>by
  rw[Rp] at h ⊢;obtain⟨a,j,h1,h2,h3,h4⟩:=h;exact⟨a,j,h1,e _ _ h2,h3,Rps.mono e c vs h4⟩
 | .ob n,v,h=>by
  rw[Rp] at h ⊢;obtain⟨a,h1,h2⟩:=h;exact⟨a,h1,c _ _ h2⟩
theorem Rps.mono(e:Same F F')(b:∀(n:Nat) (a:Addr),as[n]?=some a->as'[n]?=some a):∀(ds:List D) {xs:List V},Rps K F as xs ds->Rps K F' as' xs ds
 | [],xs,h=>by rw[Rps] at h ⊢;exact h
 |d::ds,xs,h=>by
  rw[Rps] at h ⊢;obtain⟨x,r,h1,h2,h3⟩:=h;exact⟨x,r,h1,Rp.mono e b d h2,Rps.mono e b ds h3⟩
end
def Rp.non{K:Frag}:Rp K F as .non .non:=by rw[Rp]
def Rp.bl{K:Frag} :Rp K F as (.bl b) (.bl b):=by rw[Rp]
def Rp.int{K:Frag} :Rp K F as (.int i) (.int i):=by rw[Rp]
def Rp.str{K:Frag} :Rp K F as (.str (S l)) (.str l):=by rw[Rp]
def Rp.unN{K:Frag}  (h:Rp K F as v .non):v=.non:=by rw[Rp] at h;exact h
def Rp.unB{K:Frag}   (h:Rp K F as v (.bl b)):v=.bl b:=by rw[Rp] at h;exact h
def Rp.unI{K:Frag}   (h:Rp K F as v (.int i)):v=.int i:=by exact h
def Rp.unS{K:Frag}   (h:Rp K F as v (.str l)):v=.str (S l):=by rw[Rp] at h;exact h
def Rp.unL{K:Frag}   (h:Rp K F as v (.lst ds)):∃a xs,v=.ref a/\RdK K F a xs/\Rps K F as xs ds:=by rw[Rp] at h;exact h
def Rp.unT'{K:Frag}   (h:Rp K F as v (.tup ds)):∃a xs,v=.ref a/\TqT K F a xs/\Rps K F as xs ds:=by rw[Rp] at h;exact h
def Rp.unT{K:Frag}   (h:Rp K F as v (.tup ds)):∃a xs,v=.ref a/\SqT K F a xs/\Rps K F as xs ds:=let ⟨a,xs,e,h1,h2⟩:=h.unT';⟨a,xs,e,h1.sq,h2⟩
def Rp.unO{K:Frag}   (h:Rp K F as v (.ob n)):∃a,v=.ref a/\as[n]?=some a:=by rw[Rp] at h;exact h
def Rp.unD{K:Frag}   (h:Rp K F as v (.dic ks vs)):∃(a:Addr) (b:List (Key×V)),v=.ref a/\F a=some (.dK b)/\ks=b.map (λp=>sZ p.1)/\Rps K F as (b.map (·.2)) vs:=by rw[Rp] at h;exact h
def Rp.mkL{K:Frag}    (h:RdK K F a xs)(hs:Rps K F as xs ds):Rp K F as (.ref a) (.lst ds):=by rw[Rp];exact⟨a,xs,rfl,h,hs⟩
def Rp.mkT{K:Frag}    (h:TqT K F a xs)(hs:Rps K F as xs ds):Rp K F as (.ref a) (.tup ds):=by rw[Rp];exact⟨a,xs,rfl,h,hs⟩
def Rp.mkO{K:Frag}   (h:as[n]?=some a):Rp K F as (.ref a) (.ob n):=by exact⟨a,rfl,h⟩
def Rps.nil{K:Frag}:Rps K F as [] []:=by rw[Rps]
def Rps.cons{K:Frag}{F:Hp}{as:List Addr}{x:V}{xs:List V}{d:D}{ds:List D}(h:Rp K F as x d)(hs:Rps K F as xs ds):Rps K F as (x::xs) (d::ds):=by
 rw[Rps];exact⟨x,xs,rfl,h,hs⟩
def Rps.un{K:Frag}    (h:Rps K F as xs (d::ds)):∃x r,xs=x::r/\Rp K F as x d/\Rps K F as r ds:=by rw[Rps] at h;exact h
def Rps.un0{K:Frag}  (h:Rps K F as xs []):xs=[]:=by rw[Rps] at h;exact h
theorem Rps.length{K:Frag}:∀{ds:List D}{xs:List V},Rps K F as xs ds->xs.length=ds.length
 | [],xs,h=>by rw[h.un0];rfl
 |d::ds,xs,h=>by
  obtain⟨x,r,rfl,_,h3⟩:=h.un;simp[Rps.length h3]
theorem Rps.get{K:Frag}{F:Hp}{as:List Addr}:∀{ds:List D}{xs:List V}{i:Nat}{x:V},Rps K F as xs ds->xs[i]?=some x->∃d,ds[i]?=some d/\Rp K F as x d
 | [],xs,i,x,h,e=>by rw[h.un0] at e;simp at e
 |d::ds,xs,i,x,h,e=>by
  obtain⟨y,r,rfl,h2,h3⟩:=h.un
  cases i with
  |zero=>simp at e;subst e;exact⟨d,rfl,h2⟩
  |succ i =>
   obtain⟨c,b,q⟩:=Rps.get (i:=i) (x:=x) h3 (by simpa using e);exact⟨c,by simpa using b,q⟩
def Rps.get'{K:Frag}{F:Hp}{as:List Addr}:∀{ds:List D}{xs:List V}{i:Nat}{d:D},Rps K F as xs ds->ds[i]?=some d->∃x,xs[i]?=some x/\Rp K F as x d:=by
 intro ds xs i d h e;have f:=h.length
 have b:i<xs.length:=by rw[f];exact(zt.mp e).1
 obtain⟨j,c,q⟩:=h.get (zw b);rw[e] at c;cases c;exact⟨_,zw b,q⟩
theorem Rps.append{K:Frag}   (b:Rps K F as ys es):∀{ds:List D}{xs:List V},Rps K F as xs ds->Rps K F as (xs++ys) (ds++es)
 | [],xs,h=>by rw[h.un0];exact b
 |e::ds,xs,h=>by
  obtain⟨y,r,rfl,h2,h3⟩:=h.un;exact Rps.cons h2 (Rps.append b h3)
def Rps.snoc{K:Frag}     (h:Rps K F as xs ds)(hx:Rp K F as x d):Rps K F as (xs++[x]) (ds++[d]):=Rps.append (Rps.cons hx Rps.nil) h
theorem Rps.take{K:Frag}:∀{ds:List D}{xs:List V} (n:Nat),Rps K F as xs ds->Rps K F as (xs.take n) (ds.take n)
 | _,_,0,_=>by simpa using Rps.nil
 | [],xs,n+1,h=>by rw[h.un0];simpa using Rps.nil
 |d::ds,xs,n+1,h=>by
  obtain⟨y,r,rfl,h2,h3⟩:=h.un;exact Rps.cons h2 (Rps.take n h3)
theorem Rps.drop{K:Frag}:∀{ds:List D}{xs:List V} (n:Nat),Rps K F as xs ds->Rps K F as (xs.drop n) (ds.drop n)
 | _,_,0,h=>by simpa using h
 | [],xs,n+1,h=>by rw[h.un0];simpa using Rps.nil
 |d::ds,xs,n+1,h=>by
  obtain⟨y,r,rfl,h2,h3⟩:=h.un;exact Rps.drop n h3
theorem Rps.set{K:Frag}{F:Hp}{as:List Addr}:∀{ds:List D}{xs:List V}{x:V}{d:D} (n:Nat),Rps K F as xs ds->Rp K F as x d->Rps K F as (xs.set n x) (ds.set n d)
 | [],xs,x,d,n,h,_=>by rw[h.un0];simpa using Rps.nil
 |e::ds,xs,x,d,0,h,hx=>by
  obtain⟨y,r,rfl,h2,h3⟩:=h.un;exact Rps.cons hx h3
 |e::ds,xs,x,d,n+1,h,hx=>by
  obtain⟨y,r,rfl,h2,h3⟩:=h.un;exact Rps.cons h2 (Rps.set n h3 hx)
theorem Rps.rep{K:Frag}   (h:Rps K F as xs ds):∀n:Nat,Rps K F as (List.replicate n xs).flatten (List.replicate n ds).flatten
 | 0=>by simpa using Rps.nil
 |n+1=>by
  rw[List.replicate_succ,List.replicate_succ,List.flatten_cons,List.flatten_cons];exact Rps.append (Rps.rep h n) h
end
def isD:HO->Bool
 | .ins _ _ _=>false
 | .own _=>false
 | .xd _=>false
 | _=>true
def isL:HO->Bool
 | .lst _=>true
 | .dK _=>true
 | _=>false
def Fe  (h:isL o=true):isD o=true:=by
 cases o<;>first | rfl | cases h
structure Gr(H F:Hp)(as:List Addr)(H' F':Hp)(as':List Addr):Prop where
 fz:∀a o,H a=some o->a∉as->isL o=true->F' a=F a
 ff:Same F F'
 nw:∃new,as'=as++new/\∀a∈new,H a=none
 fr:∀a o,H a=some o->a∉as->isD o=true->H' a=some o
 dm:∀a,H' a=none->H a=none
 kz:∀a o u,H a=some (.frz o u)->H' a=some (.frz o u)
structure Pt where
 p:Addr->Prop
 ss:List (Nat×V×D)
instance:CoeFun Pt (λ_=>Addr->Prop):=⟨Pt.p⟩
def Pt.all(H:Hp):Pt:=⟨λa=>H a≠none,[]⟩
structure GrS(P:Pt)(H F:Hp)(as:List Addr)(H' F':Hp)(as':List Addr):Prop where
 fz:∀a o,P a->H a=some o->a∉as->isL o=true->F' a=F a
 ff:Same F F'
 nw:∃new,as'=as++new/\∀a∈new,H a=none
 fr:∀a o,P a->H a=some o->a∉as->isD o=true->H' a=some o
 dm:∀a,H' a=none->H a=none
 kz:∀a o u,H a=some (.frz o u)->H' a=some (.frz o u)
def Gr.refl:Gr H F b H F b:=⟨λ_ _ _ _ _=>rfl,Same.refl F,⟨[],by simp,λ_ h=>nomatch h⟩,λ_ _ h _ _=>h,λ_ h=>h,λ_ _ _ h=>h⟩
def Gr.trans(a:Gr H F G J O E)(b:Gr J O E I L C):Gr H F G I L C:=by
 obtain⟨x,j,h1⟩:=a.nw;obtain⟨m,y,h2⟩:=b.nw;refine⟨λc o f d hd=>?_,a.ff.trans b.ff,⟨x++m,by rw[y,j,zH],λc f=>?_⟩,λc o e d hd=>?_,λc h=>a.dm c (b.dm c h),λc o u h=>b.kz c o u (a.kz c o u h)⟩
 ·have q:=a.fr c o f d (Fe hd);refine(b.fz c o q ?_ hd).trans (a.fz c o f d hd);rw[j];intro z
  rcases zB.mp z with z | z
  ·exact d z
  ·rw[h1 c z] at f;cases f
 ·rcases zB.mp f with z | z
  ·exact h1 c z
  ·exact a.dm c (h2 c z)
 ·have q:=a.fr c o e d hd;refine b.fr c o q ?_ hd;rw[j];intro z
  rcases zB.mp z with z | z
  ·exact d z
  ·rw[h1 c z] at e;cases e
def Gr.toS(a:Gr H F f j m d):GrS P H F f j m d:=⟨λc o _=>a.fz c o,a.ff,a.nw,λc o _ e b hd=>a.fr c o e b hd,a.dm,a.kz⟩
def GrS.refl:GrS P H F b H F b:=Gr.refl.toS
def GrS.trans(a:GrS P H F G J O E)(b:GrS P J O E I L C):GrS P H F G I L C:=by
 obtain⟨x,j,h1⟩:=a.nw;obtain⟨m,y,h2⟩:=b.nw;refine⟨λc o p f d hd=>?_,a.ff.trans b.ff,⟨x++m,by rw[y,j,zH],λc f=>?_⟩,λc o p e d hd=>?_,λc h=>a.dm c (b.dm c h),λc o u h=>b.kz c o u (a.kz c o u h)⟩
 ·have q:=a.fr c o p f d (Fe hd);refine(b.fz c o p q ?_ hd).trans (a.fz c o p f d hd);rw[j];intro z
  rcases zB.mp z with z | z
  ·exact d z
  ·rw[h1 c z] at f;cases f
 ·rcases zB.mp f with z | z
  ·exact h1 c z
  ·exact a.dm c (h2 c z)
 ·have q:=a.fr c o p e d hd;refine b.fr c o p q ?_ hd;rw[j];intro z
  rcases zB.mp z with z | z
  ·exact d z
  ·rw[h1 c z] at e;cases e
def GrS.gr(a:GrS (Pt.all H) H F d f j b):Gr H F d f j b:=⟨λc o e=>a.fz c o (show H c≠none by rw[e];exact λz=>nomatch z) e,a.ff,a.nw,λc o e=>a.fr c o (show H c≠none by rw[e];exact λz=>nomatch z) e,a.dm,a.kz⟩
def Gr.at_(a:Gr H F f j m d):∀(n:Nat) (c:Addr),f[n]?=some c->d[n]?=some c:=λn c h=>by
 obtain⟨b,e,_⟩:=a.nw;rw[e,zD (zt.mp h).1];exact h
def GrS.at_(a:GrS P H F f j m d):∀(n:Nat) (c:Addr),f[n]?=some c->d[n]?=some c:=λn c h=>by
 obtain⟨b,e,_⟩:=a.nw;rw[e,zD (zt.mp h).1];exact h
def Gr.out(a:Gr H F j m q f)  (h:c∉j)(e:H c≠none):c∉f:=by
 obtain⟨d,b,h1⟩:=a.nw;rw[b];intro z
 rcases zB.mp z with z | z
 ·exact h z
 ·exact e (h1 c z)
def Rp.gr{K:Frag}   (h:Rp K F c v d)(a:Gr H F c j f b):Rp K f b v d:=Rp.mono a.ff a.at_ d h
def Rps.gr{K:Frag}   (h:Rps K F c v d)(a:Gr H F c j f b):Rps K f b v d:=Rps.mono a.ff a.at_ d h
def Rp.grS{K:Frag}   (h:Rp K F c v d)(a:GrS P H F c j f b):Rp K f b v d:=Rp.mono a.ff a.at_ d h
structure FsR(K:Frag)(F:Hp)(as:List Addr)(gs:List (Str×V))(fs:List (Str×D)):Prop where
 nm:gs.map (·.1)=fs.map (·.1)
 vl:Rps K F as (gs.map (·.2)) (fs.map (·.2))
def XF(K:Frag)(F:Hp)(f:List Addr)(b:Option Addr)(fs:List (Str×D)):Prop:=fs=[]\/∃c d gs,b=some c/\F c=some (.frz d (.xd gs))/\FsR K F f gs fs
def XF.mono{K:Frag}     (h:XF K F m f fs)(e:Same F q)(c:∀(n:Nat) (a:Addr),m[n]?=some a->j[n]?=some a):XF K q j f fs:=by
 rcases h with h | ⟨d,b,gs,h1,h2,h3,h4⟩
 ·exact .inl h
 ·exact .inr ⟨d,b,gs,h1,e _ _ h2,h3,Rps.mono e c _ h4⟩
def ObR(K:Frag)(mg:Str->Option Value)(H F:Hp)(d:List Addr)(a:Addr):Ob->Prop
 | .ins c fs=>∃C m gs,mg c=some (.ref C)/\H a=some (.ins C m gs)/\FsR K F d gs fs
 | .ml ds=>∃b,H a=some (.lst b)/\Rps K F d b ds
 | .dt kvs=>∃b:List (List Key×V),H a=some (.dT b)/\b.map (·.1)=kvs.map (·.1)/\Rps K F d (b.map (·.2)) (kvs.map (·.2))
 | .df kvs=>∃(o:Obj) (b:List (List Key×V)),H a=some (.frz o (.dT b))/\b.map (·.1)=kvs.map (·.1)/\Rps K F d (b.map (·.2)) (kvs.map (·.2))
 | .dk kvs=>∃b:List (Key×V),H a=some (.dK b)/\b.map (·.1)=kvs.map (·.1)/\Rps K F d (b.map (·.2)) (kvs.map (·.2))
 | .kf kvs=>∃(o:Obj) (b:List (Key×V)),H a=some (.frz o (.dK b))/\b.map (·.1)=kvs.map (·.1)/\Rps K F d (b.map (·.2)) (kvs.map (·.2))
 | .xc c fs=>∃(C:Addr) (f:Obj) (u:HO),mg c=some (.ref C)/\H a=some (.frz f u)/\f.cls=.ref C/\(∃j,f.data=.fields j)/\XF K F d f.dict fs
 | .gone=>∃φ,H a=some (.ext φ)
 | .dn kvs=>∃b:List (NK×V),H a=some (.dN K b)/\b.map (·.1)=kvs.map (·.1)/\Rps K F d (b.map (·.2)) (kvs.map (·.2))
 | .nf kvs=>∃(o:Obj) (b:List (NK×V)),H a=some (.frz o (.dN K b))/\b.map (·.1)=kvs.map (·.1)/\Rps K F d (b.map (·.2)) (kvs.map (·.2))
structure RlO(K:Frag)(mg:Str->Option Value)(O:au)(H F:Hp)(as:List Addr):Prop where
 fh:Same F H
 fd:∀a o,F a=some o->isD o=true
 nd:as.Nodup
 len:as.length=O.length
 fa:∀a∈as,F a=none
 ob:∀(n:Nat) (a:Addr) (o:Ob),as[n]?=some a->O[n]?=some o->ObR K mg H F as a o
inductive Md where
 | v | s | o
 deriving DecidableEq
def iC:D->Bool
 | .lst _=>false
 | _=>true
def gK(P:Pt)(K:Frag)(H F:Hp)(b:List Addr):Md->V->D->Prop
 | .v,v,d=>Rp K F b v d
 | .s,v,d=>Rp K F b v d\/∃a c f,v=.ref a/\d=.lst f/\H a=some (.lst c)/\a∉b/\P a/\Rps K F b c f
 | .o,v,d=>(iC d=true/\Rp K F b v d)\/∃a c f,v=.ref a/\d=.lst f/\H a=some (.lst c)/\F a=none/\a∉b/\¬P a/\Rps K F b c f
structure SlO(K:Frag)(md:List Md)(P:Pt)(ρ:aM)(σ:St)(H F:Hp)(as:List Addr):Prop where
 len:σ.length=md.length
 len':ρ.length=md.length
 pd:∀a,P a->H a≠none
 sl:∀(i:Nat) (m:Md) (d:D),md[i]?=some m->ρ[i]?=some (some d)->∃v,σ[i]?=some (some v)/\gK P K H F as m v d
 inj:∀(i j:Nat) (a:Addr) (ds es:List D),md[i]?=some .o->md[j]?=some .o->ρ[i]?=some (some (.lst ds))->ρ[j]?=some (some (.lst es))->σ[i]?=some (some (.ref a))->σ[j]?=some (some (.ref a))->i=j
 pin:∀x∈P.ss,md[x.1]?=some .s/\ρ[x.1]?=some (some x.2.2)/\σ[x.1]?=some (some x.2.1)
def gK.step{K:Frag}    (h:gK P K H F as m v d)(g:Gr H F as H' F' as'):gK P K H' F' as' m v d:=by
 cases m with
 |v=>exact Rp.gr (show Rp K F as v d from h) g
 |s =>
  rcases h with h | ⟨a,f,y,x,u,c,b,q,j⟩
  ·exact .inl (h.gr g)
  ·exact .inr ⟨a,f,y,x,u,g.fr _ _ c b rfl,g.out b (by rw[c];exact λz=>nomatch z),q,j.gr g⟩
 |o =>
  rcases h with⟨h1,h⟩ | ⟨a,f,y,x,u,c,E,b,q,j⟩
  ·exact .inl ⟨h1,h.gr g⟩
  ·have C:H a≠none:=by rw[c];exact λz=>nomatch z
   exact .inr ⟨a,f,y,x,u,g.fr _ _ c b rfl,by rw[g.fz a _ c b rfl];exact E,g.out b C,q,j.gr g⟩
def SlO.step{K:Frag}(h:SlO K md P ρ σ H F j)(g:Gr H F j u x f):SlO K md P ρ σ u x f :=
 ⟨h.len,h.len',λa p z=>h.pd a p (g.dm a z),λi m d c b=>let ⟨v,q,r⟩:=h.sl i m d c b;⟨v,q,r.step g⟩,h.inj,h.pin⟩
def Sv(K:Frag)(H F:Hp)(b:List Addr)(v:V)(d:D):Prop :=
 Rp K F b v d\/∃a c f,v=.ref a/\d=.lst f/\H a=some (.lst c)/\a∉b/\Rps K F b c f
def Lk(K:Frag)(H F:Hp)(f:List Addr)(v:V)(d:D):Prop :=
 Rp K F f v d\/∃a b c,v=.ref a/\d=.lst c/\H a=some (.lst b)/\Rps K F f b c
def Ow(K:Frag)(N:Addr->Prop)(H F:Hp)(b:List Addr)(v:V)(d:D):Prop :=
 (iC d=true/\Rp K F b v d)\/∃a c f,v=.ref a/\d=.lst f/\H a=some (.lst c)/\F a=none/\a∉b/\N a/\Rps K F b c f
noncomputable def aW(O:au)(d:D):D:=match d with
 | .ob n=>match O[n]? with
  |some (.ml ds)=>.lst ds
  | _=>.ob n
 |d=>d
def Sv.gr{K:Frag}(h:Sv K H F y v d)(g:Gr H F y C E x):Sv K C E x v d:=by
 rcases h with h | ⟨a,f,u,q,m,c,b,j⟩
 ·exact .inl (h.gr g)
 ·exact .inr ⟨a,f,u,q,m,g.fr _ _ c b rfl,g.out b (by rw[c];exact λz=>nomatch z),j.gr g⟩
def Sv.lk{K:Frag}(h:Sv K H F y v d)(r:RlO K mg O H F y):Lk K H F y v (aW O d):=by
 rcases h with h | ⟨a,b,c,rfl,rfl,m,x,j⟩
 ·cases d with
  |ob n =>
   obtain⟨a,rfl,f⟩:=h.unO;unfold aW
   dsimp
   split
   ·rename_i c e;obtain⟨b,u,q⟩:=r.ob n a _ f e;exact .inr ⟨a,b,c,rfl,rfl,u,q⟩
   ·exact .inl (Rp.mkO f)
  | _=>exact .inl h
 ·exact .inr ⟨a,b,c,rfl,rfl,m,j⟩
def Lk.list{K:Frag}  (h:Lk K H F m v (.lst ds))(fh:Same F H):∃a xs,v=.ref a/\RdK K H a xs/\Rps K F m xs ds:=by
 rcases h with h | ⟨a,xs,j,f,d,c,b⟩
 ·obtain⟨a,xs,e,h1,h2⟩:=h.unL;exact⟨a,xs,e,h1.mono fh,h2⟩
 ·cases d;exact⟨a,xs,f,.inl (.inl c),b⟩
def Lk.rp{K:Frag}(h:Lk K H F u v d)(b:iC d=true):Rp K F u v d:=by
 rcases h with h | ⟨a,f,c,q,rfl,m,j⟩
 ·exact h
 ·cases b
def Sv.rp{K:Frag}(h:Sv K H F u v d)(b:iC d=true):Rp K F u v d:=by
 rcases h with h | ⟨a,f,c,q,rfl,m,j⟩
 ·exact h
 ·cases b
def Gr.lay   (b:H p=none):Gr H F d (upd H p o) F d :=
 ⟨λ_ _ _ _ _=>rfl,Same.refl F,⟨[],by simp,λ_ h=>nomatch h⟩,λa c e _ _=>by rw[aH (bV e b)];exact e,λa e=>by
  by_cases h:a=p
  ·subst h;exact b
  ·rwa [aH h] at e,λa c u e=>by rw[aH (bV e b)];exact e⟩
def ObR.keep{K:Frag}   (h:ObR K mg H F as a o)(d:H' a=H a)(e:Same F F')(f:∀(n:Nat) (a:Addr),as[n]?=some a->as'[n]?=some a):ObR K mg H' F' as' a o:=by
 cases o with
 |ins c fs =>
  obtain⟨C,q,gs,h1,h2,h3,h4⟩:=h;exact⟨C,q,gs,h1,by rw[d];exact h2,h3,Rps.mono e f _ h4⟩
 |ml ds =>
  obtain⟨b,h1,h2⟩:=h;exact⟨b,by rw[d];exact h1,Rps.mono e f _ h2⟩
 |dt kvs =>
  obtain⟨b,h1,h2,h3⟩:=h;exact⟨b,by rw[d];exact h1,h2,Rps.mono e f _ h3⟩
 |df kvs =>
  obtain⟨o,b,h1,h2,h3⟩:=h;exact⟨o,b,by rw[d];exact h1,h2,Rps.mono e f _ h3⟩
 |dk kvs =>
  obtain⟨b,h1,h2,h3⟩:=h;exact⟨b,by rw[d];exact h1,h2,Rps.mono e f _ h3⟩
 |kf kvs =>
  obtain⟨o,b,h1,h2,h3⟩:=h;exact⟨o,b,by rw[d];exact h1,h2,Rps.mono e f _ h3⟩
 |xc c fs =>
  obtain⟨C,j,u,h1,h2,h3,h4,m⟩:=h;exact⟨C,j,u,h1,by rw[d];exact h2,h3,h4,m.mono e f⟩
 |gone =>
  obtain⟨φ,h1⟩:=h;exact⟨φ,by rw[d];exact h1⟩
 |dn kvs =>
  obtain⟨b,h1,h2,h3⟩:=h;exact⟨b,by rw[d];exact h1,h2,Rps.mono e f _ h3⟩
 |nf kvs =>
  obtain⟨o,b,h1,h2,h3⟩:=h;exact⟨o,b,by rw[d];exact h1,h2,Rps.mono e f _ h3⟩
def RlO.at{K:Frag}{n:Nat}   (r:RlO K mg O H F as)(j:as[n]?=some a)(f:O[n]?=some o):H a≠none:=by
 have q:=r.ob n a o j f
 cases o with
 |ins c fs=>obtain⟨C,x,gs,h1,h2,_⟩:=q;rw[h2];exact λz=>nomatch z
 |ml y=>obtain⟨d,h1,_⟩:=q;rw[h1];exact λz=>nomatch z
 |dt b=>obtain⟨d,h1,_⟩:=q;rw[h1];exact λz=>nomatch z
 |df b=>obtain⟨o,d,h1,_⟩:=q;rw[h1];exact λz=>nomatch z
 |dk b=>obtain⟨d,h1,_⟩:=q;rw[h1];exact λz=>nomatch z
 |kf b=>obtain⟨o,d,h1,_⟩:=q;rw[h1];exact λz=>nomatch z
 |xc c fs=>obtain⟨C,m,u,_,h1,_⟩:=q;rw[h1];exact λz=>nomatch z
 |gone=>obtain⟨φ,h1⟩:=q;rw[h1];exact λz=>nomatch z
 |dn b=>obtain⟨d,h1,_⟩:=q;rw[h1];exact λz=>nomatch z
 |nf b=>obtain⟨o,d,h1,_⟩:=q;rw[h1];exact λz=>nomatch z
def RlO.all{K:Frag}  (r:RlO K mg O H F f)(c:a∈f):H a≠none:=by
 obtain⟨n,b,e⟩:=List.mem_iff_getElem.mp c
 have d:n<O.length:=by rw[<-r.len];exact b
 exact r.at (n:=n) (by rw[zw b,e]) (zw d)
def RlO.lay{K:Frag}   (r:RlO K mg O H F f)(c:H p=none):RlO K mg O (upd H p o) F f:=by
 refine⟨λa u e=>?_,r.fd,r.nd,r.len,r.fa,λn a u d b=>(r.ob n a u d b).keep (aH ?_) (Same.refl F) λ_ _ h=>h⟩
 ·have q:=r.fh a u e;rw[aH (bV q c)];exact q
 ·intro z;subst z;exact r.at d b c
def Gr.frz{H F j d:Hp}{f b:List Addr}{p:Addr}{o:HO}(x:H p=none)(g:Gr H F f j d b)(C:d p=none):Gr H F f j (upd d p o) b :=
 ⟨λa m c y hd=>by rw[aH (λz=>by subst z;rw[x] at c;cases c)];exact g.fz a m c y hd,λa u e=>by
  have q:=g.ff a u e
  rw[aH (bV q C)];exact q,g.nw,g.fr,g.dm,g.kz⟩
def RlO.frz{K:Frag}{mg:Str->Option Value}{H F:Hp}{b:List Addr}{O:au}{p:Addr}{o:HO}(r:RlO K mg O H F b)(c:H p=some o)(d:F p=none)(f:p∉b)(hd:isD o=true):RlO K mg O H (upd F p o) b:=by
 have ff:Same F (upd F p o):=λa u e=>by rw[aH (bV e d)];exact e
 refine⟨λa u e=>?_,λa u e=>?_,r.nd,r.len,λa h=>?_,λn a u h1 h2=>(r.ob n a u h1 h2).keep rfl ff λ_ _ h=>h⟩
 ·by_cases h:a=p
  ·subst h;rw[bz] at e;cases e;exact c
  ·rw[aH h] at e;exact r.fh a u e
 ·by_cases h:a=p
  ·subst h;rw[bz] at e;cases e;exact hd
  ·rw[aH h] at e;exact r.fd a u e
 ·rw[aH (λz=>by subst z;exact f h)];exact r.fa a h
abbrev RR:=(Addr->Prop)->Hp->Hp->List Addr->V->D->Prop
def rV(K:Frag):RR:=λ_ _ F b v d=>Rp K F b v d
def rS(K:Frag):RR:=λ_ H F b v d=>Sv K H F b v d
def rO(K:Frag):RR:=λN H F b v d=>Ow K N H F b v d
def rA(K:Frag):Md->RR
 | .v=>rV K
 | _=>rS K
def eO(R:RR):Prop:=∀(N c:Addr->Prop) (H F:Hp) (b:List Addr) (v:V) (d:D),(∀a,N a->c a)->R N H F b v d->R c H F b v d
def kE{K:Frag}:eO (rV K):=λ_ _ _ _ _ _ _ _ h=>h
def iD{K:Frag}:eO (rO K):=λN G H F E v d c h=>by
 rcases h with h | ⟨a,b,C,y,x,u,q,m,j,f⟩
 ·exact .inl h
 ·exact .inr ⟨a,b,C,y,x,u,q,m,c a j,f⟩
inductive tM (K:Frag) (mg:Str->Option Value) (md:List Md) (P:Pt) (R:RR) (m:M D) (σ:St) (H:Hp) (Q:VK):Prop
 | mk (ρ:aM) (O:au) (F:Hp) (as:List Addr) (d:D) (O':au):RlO K mg O H F as->SlO K md P ρ σ H F as->m ρ O=.ok d O' ->
  (∀v H' F' as',Gr H F as H' F' as'->RlO K mg O' H' F' as'->R (λa=>H a=none) H' F' as' v d->Q v H')->tM K mg md P R m σ H Q
inductive tMT (K:Frag) (mg:Str->Option Value) (md:List Md) (P:Pt) (m:M Bool) (σ:St) (H:Hp) (Q:Bool->Hp->Prop):Prop
 | mk (ρ:aM) (O:au) (F:Hp) (as:List Addr) (b:Bool) (O':au):RlO K mg O H F as->SlO K md P ρ σ H F as->m ρ O=.ok b O' ->
  (∀H' F' as',Gr H F as H' F' as'->RlO K mg O' H' F' as'->Q b H')->tMT K mg md P m σ H Q
def bO(K:Frag)(H F:Hp)(b:List Addr):List Md->List V->List D->Prop
 | [],[],[]=>True
 |m::ms,v::vs,d::ds=>rA K m (λ_=>True) H F b v d/\bO K H F b ms vs ds
 | _,_,_=>False
inductive tMA (K:Frag) (mg:Str->Option Value) (md:List Md) (P:Pt) (ms:List Md) (m:M (List D)) (σ:St) (H:Hp) (Q:List V->Hp->Prop):Prop
 | mk (ρ:aM) (O:au) (F:Hp) (as:List Addr) (ds:List D) (O':au):RlO K mg O H F as->SlO K md P ρ σ H F as->m ρ O=.ok ds O' ->
  (∀vs H' F' as',Gr H F as H' F' as'->RlO K mg O' H' F' as'->bO K H' F' as' ms vs ds->Q vs H')->tMA K mg md P ms m σ H Q
def XE(X:Cx)(md:List Md)(P:Pt)(R:RR)(e:Expr)(m:M D):Prop:=PE X e (tM X.K X.mg md P R m)
def VE(X:Cx)(md:List Md)(P:Pt)(e:Expr)(m:M D):Prop:=PE X e (tM X.K X.mg md P (rV X.K) m)
def SE(X:Cx)(md:List Md)(P:Pt)(e:Expr)(m:M D):Prop:=PE X e (tM X.K X.mg md P (rS X.K) m)
def OE(X:Cx)(md:List Md)(P:Pt)(e:Expr)(m:M D):Prop:=PE X e (tM X.K X.mg md P (rO X.K) m)
def TsE(X:Cx)(md:List Md)(P:Pt)(e:Expr)(m:M Bool):Prop:=PT X e (tMT X.K X.mg md P m)
def TwE(X:Cx)(md:List Md)(P:Pt)(e:Expr)(m:M Bool):Prop:=PW X e (tMT X.K X.mg md P m)
def AE(X:Cx)(md:List Md)(P:Pt)(ms:List Md)(es:List Expr)(m:M (List D)):Prop:=PA X es (tMA X.K X.mg md P ms m)
def gm(K:Frag)(mg:Str->Option Value)(md:List Md)(P:Pt)(R:RR)(D:Ends)(H F:Hp)(m:List Addr):Fl->Prop
 | .nx ρ' O'=>∀f c j b,GrS P H F m c j b->RlO K mg O' c j b->SlO K md P ρ' f c j b->D.nx f c
 | .bk ρ' O'=>∀f c j b,GrS P H F m c j b->RlO K mg O' c j b->SlO K md P ρ' f c j b->D.bk f c
 | .ct ρ' O'=>∀f c j b,GrS P H F m c j b->RlO K mg O' c j b->SlO K md P ρ' f c j b->D.ct f c
 | .rt d O'=>∀v c j b,GrS P H F m c j b->RlO K mg O' c j b->R (λa=>¬P a) c j b v d->D.rt v c
 | .ex _ _=>False
 | .no=>False
inductive tMS (K:Frag) (mg:Str->Option Value) (md:List Md) (P:Pt) (R:RR) (m:MS) (D:Ends) (σ:St) (H:Hp):Prop
 | mk (ρ:aM) (O:au) (F:Hp) (as:List Addr):RlO K mg O H F as->SlO K md P ρ σ H F as->gm K mg md P R D H F as (m ρ O)->tMS K mg md P R m D σ H
def VS(X:Cx)(md:List Md)(P:Pt)(R:RR)(st:Stmt)(m:MS):Prop:=PS X st (tMS X.K X.mg md P R m)
def VSs(X:Cx)(md:List Md)(P:Pt)(R:RR)(st:List Stmt)(m:MS):Prop:=PSs X st (tMS X.K X.mg md P R m)
section
variable {X:Cx}{md:List Md}{P:Pt}{R:RR}
def PE.imp   (h:PE X e t)(k:∀σ H Q,t' σ H Q->t σ H Q):PE X e t':=λpins s σ H Q I q=>h pins s σ H Q I (k σ H Q q)
def PT.imp   (h:PT X e t)(k:∀σ H Q,t' σ H Q->t σ H Q):PT X e t':=λpins s σ H Q I q=>h pins s σ H Q I (k σ H Q q)
def PW.imp   (h:PW X e t)(k:∀σ H Q,t' σ H Q->t σ H Q):PW X e t':=λw pins s σ H Q I q=>h w pins s σ H Q I (k σ H Q q)
def PA.imp   (h:PA X e t)(k:∀σ H Q,t' σ H Q->t σ H Q):PA X e t':=λb pins s σ H Q I q=>h b pins s σ H Q I (k σ H Q q)
def PS.imp   (h:PS X e t)(k:∀D σ H,t' D σ H->t D σ H):PS X e t':=λpins s σ H D I q=>h pins s σ H D I (k D σ H q)
def PSs.imp   (h:PSs X e t)(k:∀D σ H,t' D σ H->t D σ H):PSs X e t':=λpins s σ H D I q=>h pins s σ H D I (k D σ H q)
noncomputable def aa(i:Nat):M D:=λρ O=>match ρ[i]? with
 |some (some d)=>.ok d O
 | _=>.no
noncomputable def mC(d:D):M D:=λ_ O=>.ok d O
def mG(m:M D):M D:=λρ O=>match m ρ O with
 | .ok d O'=>if iC d=true then .ok d O' else .no
 |r=>r
def tG     (h:aa i ρ O=.ok d c):ρ[i]?=some (some d)/\c=O:=by
 unfold aa at h;split at h
 ·rename_i b e;cases h;exact⟨e,rfl⟩
 ·cases h
def Uq     (h:mG m ρ O=.ok d q):m ρ O=.ok d q/\iC d=true:=by
 unfold mG at h;split at h
 ·rename_i f j e;split at h
  ·rename_i c;cases h;exact⟨e,c⟩
  ·cases h
 ·rename_i b;exact absurd h (b _ _)
def SlO.get{md:List Md}{P:Pt}{K:Frag}{ρ:aM}{σ:St}{H F:Hp}{c:List Addr}{i:Nat}{d:D}(s:SlO K md P ρ σ H F c)(h:ρ[i]?=some (some d)):∃m v,md[i]?=some m/\σ[i]?=some (some v)/\gK P K H F c m v d:=by
 have b:i<md.length:=by rw[<-s.len'];exact(zt.mp h).1
 obtain⟨v,h1,h2⟩:=s.sl i md[i] d (zw b) h;exact⟨_,v,zw b,h1,h2⟩
def gK.sv{K:Frag}      (h:gK P K H F as m v d):Sv K H F as v d:=by
 cases m with
 |v=>exact .inl h
 |s =>
  rcases h with h | ⟨a,b,x,u,q,j,f,y,c⟩
  ·exact .inl h
  ·exact .inr ⟨a,b,x,u,q,j,f,c⟩
 |o =>
  rcases h with⟨_,h⟩ | ⟨a,b,x,u,q,j,C,f,y,c⟩
  ·exact .inl h
  ·exact .inr ⟨a,b,x,u,q,j,f,c⟩
def Ur{X:Cx}{md:List Md}{P:Pt}(i:Nat)  {b:Pos}(hN:X.N[i]?=some x:=by rfl)(f:Vis X.env.scope x:=by first | exact Or.inl rfl | exact Or.inr (Or.inl rfl) | exact Or.inr (Or.inr rfl))
  (hd:(x == ("__debug__":Str))=false:=by decide) (c:(x == ("__classdict__":Str))=false:=by decide):SE X md P (.Name x b) (aa i):=by
 refine(j6 hN f hd c).imp λσ H Q h=>?_
 obtain⟨ρ,O,F,q,d,u,r,s,e,k⟩:=h;obtain⟨j,rfl⟩:=tG e;obtain⟨m,v,h1,h2,h3⟩:=s.get j;exact⟨v,h2,k v H F q Gr.refl r h3.sv⟩
def Us{X:Cx}{P:Pt}(i:Nat){x:Str}{b:Pos}(j:md[i]?=some .v:=by rfl)(hN:X.N[i]?=some x:=by rfl)(f:Vis X.env.scope x:=by first | exact Or.inl rfl | exact Or.inr (Or.inl rfl) | exact Or.inr (Or.inr rfl))
  (hd:(x == ("__debug__":Str))=false:=by decide) (c:(x == ("__classdict__":Str))=false:=by decide):VE X md P (.Name x b) (aa i):=by
 refine(j6 hN f hd c).imp λσ H Q h=>?_
 obtain⟨ρ,O,F,q,d,u,r,s,e,k⟩:=h;obtain⟨m,rfl⟩:=tG e;obtain⟨v,h2,h3⟩:=s.sl i .v d j m;exact⟨v,h2,k v H F q Gr.refl r h3⟩
def Ut   (h:VE X md P e m):SE X md P e m:=h.imp λσ H Q q=>by
 obtain⟨ρ,O,F,f,d,y,r,s,e,k⟩:=q;exact⟨ρ,_,F,f,_,_,r,s,e,λv j u x g b c=>k v j u _ g b (.inl c)⟩
def wZ   (h:SE X md P e m):VE X md P e (mG m):=h.imp λσ H Q q=>by
 obtain⟨ρ,O,F,j,d,C,r,s,e,k⟩:=q;obtain⟨e,f⟩:=Uq e;exact⟨ρ,_,F,j,_,_,r,s,e,λv u x y g b c=>k v u x _ g b (Sv.rp c f)⟩
def Uu   (h:OE X md P e m):VE X md P e m:=h.imp λσ H Q q=>by
 obtain⟨ρ,O,F,T,d,W,r,s,e,k⟩:=q;refine⟨ρ,_,F,T,_,_,r,s,e,λv E f c g C j=>?_⟩
 rcases j with⟨_,j⟩ | ⟨a,y,U,rfl,rfl,L,x,J,I,G⟩
 ·exact k v E f c g C j
 ·have ff:Same f (upd f a (.lst y)):=λb u q=>by rw[aH (bV q x)];exact q
  refine k _ E (upd f a (.lst y)) c (g.frz I x) (C.frz L x J rfl) (Rp.mkL (.inl (.inl bz)) (Rps.mono ff (λ_ _ z=>z) _ G))
def pR    (h:PE X e (tC v))(hd:∀K F b,Rp K F b v d):VE X md P e (mC d):=h.imp λσ H Q q=>by
 obtain⟨ρ,O,F,b,d,c,r,s,e,k⟩:=q;cases e;exact k v H F b Gr.refl r (hd _ _ _)
def Uv  :VE X md P (.Constant (.int i) j b) (mC (.int i)):=pR Oz λ_ _ _=>Rp.int
def Uw  :VE X md P (.Constant (.bool b) j c) (mC (.bl b)):=pR OD λ_ _ _=>Rp.bl
def Ux :VE X md P (.Constant .none j b) (mC .non):=pR OJ λ_ _ _=>Rp.non
def Uy   (l:List Nat)(hx:x=S l:=by decide +kernel):VE X md P (.Constant (.str x) j pos) (mC (.str l)):=pR CW λ_ _ _=>by rw[hx];exact Rp.str
def Ff{md:List Md}{P:Pt}    {b:Pos}(h:∃u,X.mg x=some u/\RelV v u)(hd:∀K F j,Rp K F j v d)(f:Gl X x:=by rfl)(c:(x == ("__debug__":Str))=false:=by decide):VE X md P (.Name x b) (mC d):=pR (Ez h f c) hd
noncomputable def ao:M (List D):=λ_ O=>.ok [] O
noncomputable def aj(m:M D)(r:M (List D)):M (List D):=λρ O=>(m ρ O).bind λd f=>(r ρ f).bind λb c=>.ok (d::b) c
def Fg:AE X md P [] [] ao:=gh.imp λσ H Q q=>by
 obtain⟨ρ,O,F,b,d,c,r,s,e,k⟩:=q;cases e;exact k [] H F b Gr.refl r trivial
def rA.gr{K:Frag}       (h:rA K m N H F as v d)(g:Gr H F as H' F' as'):rA K m (λ_=>True) H' F' as' v d:=by
 cases m with
 |v=>exact Rp.gr (show Rp K F as v d from h) g
 |s=>exact Sv.gr (show Sv K H F as v d from h) g
 |o=>exact Sv.gr (show Sv K H F as v d from h) g
theorem bO.gr{K:Frag}   (g:Gr H F as H' F' as'):∀{ms:List Md}{vs:List V}{ds:List D},bO K H F as ms vs ds->bO K H' F' as' ms vs ds
 | [],[],[],_=>trivial
 |m::ms,v::vs,d::ds,h=>⟨rA.gr h.1 g,bO.gr g h.2⟩
 | [],[],_::_,h=>h.elim
 | [],_::_,[],h=>h.elim
 | [],_::_,_::_,h=>h.elim
 | _::_,[],[],h=>h.elim
 | _::_,[],_::_,h=>h.elim
 | _::_,_::_,[],h=>h.elim
def Fi(b:Md)      (h:XE X md P (rA X.K b) e m)(G:AE X md P ms es r)
  (hs:starEach (e::es) X.env=(false,eval e X.env)::starEach es X.env:=by exact bZ rfl):AE X md P (b::ms) (e::es) (aj m r):=(fO h G hs).imp λσ H Q q=>by
 obtain⟨ρ,O,F,L,d,O',C,s,e,k⟩:=q;obtain⟨d,O1,J,e⟩:=Res.bind_ok e;obtain⟨Y,O2,I,e⟩:=Res.bind_ok e;cases e;refine⟨ρ,_,F,L,_,_,C,s,J,λv H1 W f u y E=>?_⟩;refine⟨ρ,_,W,f,_,_,y,s.step u,I,λvs T U Z j x c=>?_⟩;exact k _ T U _ (u.trans j) x ⟨rA.gr E j,c⟩
def Uz      (h:VE X md P e m)(b:AE X md P ms es r)
  (hs:starEach (e::es) X.env=(false,eval e X.env)::starEach es X.env:=by exact bZ rfl):AE X md P (.v::ms) (e::es) (aj m r):=Fi .v h b hs
def Fj      (h:SE X md P e m)(b:AE X md P ms es r)
  (hs:starEach (e::es) X.env=(false,eval e X.env)::starEach es X.env:=by exact bZ rfl):AE X md P (.s::ms) (e::es) (aj m r):=Fi .s h b hs
theorem bO.rps{K:Frag}  :∀{n:Nat}{vs:List V}{ds:List D},bO K H F as (List.replicate n .v) vs ds->Rps K F as vs ds
 | 0,[],[],_=>Rps.nil
 |n+1,v::vs,d::ds,h=>by
  rw[List.replicate_succ] at h;exact Rps.cons h.1 (bO.rps h.2)
 | 0,[],_::_,h=>h.elim
 | 0,_::_,[],h=>h.elim
 | 0,_::_,_::_,h=>h.elim
 |n+1,[],[],h=>h.elim
 |n+1,[],_::_,h=>h.elim
 |n+1,_::_,[],h=>h.elim
noncomputable def bh(r:M (List D)):M D:=λρ O=>(r ρ O).bind λb c=>if b.length<=1000000 then .ok (.lst b) c else .no
noncomputable def aU(r:M (List D)):M D:=λρ O=>(r ρ O).bind λb c=>if b.length<=1000000 then .ok (.tup b) c else .no
def eQ  (h:n<=1000000):n<=sizeLine:=zG h (by decide)
def UG    (n:Nat)(h:AE X md P (List.replicate n .v) es r):OE X md P (.List es J) (bh r):=(Rx h).imp λσ H Q q=>by
 obtain⟨ρ,O,F,C,d,G,u,s,e,k⟩:=q;obtain⟨ds,O1,y,e⟩:=Res.bind_ok e;split at e
 ·rename_i hz;cases e;refine⟨ρ,_,F,C,_,_,u,s,y,λvs I f E m c hv=>?_⟩;have j:=hv.rps;refine⟨by rw[j.length];exact eQ hz,λp b=>?_⟩
  have x:f p=none:=by
   cases q:f p with
   |none=>rfl
   |some o=>rw[c.fh p o q] at b;cases b
  refine k _ _ f _ (m.trans (Gr.lay b)) (c.lay b) (.inr ⟨p,vs,ds,rfl,rfl,bz,x,λz=>c.all z b,m.dm p b,j⟩)
 ·cases e
def UJ     (n:Nat)(h:AE X md P (List.replicate n .v) es r):VE X md P (.Tuple es U T) (aU r):=(Rw h).imp λσ H Q q=>by
 obtain⟨ρ,O,F,G,d,J,C,s,e,k⟩:=q;obtain⟨ds,O1,E,e⟩:=Res.bind_ok e;split at e
 ·rename_i hz;cases e;refine⟨ρ,_,F,G,_,_,C,s,E,λvs L f I y j hv=>?_⟩;have x:=hv.rps;refine⟨by rw[x.length];exact eQ hz,λp c=>?_⟩
  have m:f p=none:=by
   cases q:f p with
   |none=>rfl
   |some o=>rw[j.fh p o q] at c;cases c
  have ff:Same f (upd f p (.tup vs)):=λb u q=>by rw[aH (bV q m)];exact q
  refine k _ _ _ _ ((y.trans (Gr.lay c)).frz (y.dm p c) m) ((j.lay c).frz bz m (λz=>j.all z c) rfl) (Rp.mkT (.inl bz) (Rps.mono ff (λ_ _ z=>z) _ x))
 ·cases e
inductive rD (K:Frag) (mg:Str->Option Value) (g:D->D->Option D) (x:V) (y:V) (H:Hp) (Q:VK):Prop
 |mk:∀O F as dx dy d,RlO K mg O H F as->Lk K H F as x dx->Lk K H F as y dy->g dx dy=some d->(∀v' H' F',Gr H F as H' F' as->RlO K mg O H' F' as->Ow K (λa=>H a=none) H' F' as v' d->Q v' H')->rD K mg g x y H Q
abbrev OpD(X:Cx)(f:Value->Value->Sem Value)(g:D->D->Option D):Prop:=OpR X f (rD X.K X.mg g)
def ak(g:D->D->Option D)(ma mb:M D):M D:=λρ O=>(ma ρ O).bind λx c=>(mb ρ c).bind λy b=>match g (aW b x) (aW b y) with
 |some d=>.ok d b
 |none=>.no
def w6{K:Frag}       (h:tM K mg md P (rO K) (ak g ma mb) σ H Q):tOp (rD K mg g) (tM K mg md P (rS K) ma) (tM K mg md P (rS K) mb) σ H Q:=by
 obtain⟨ρ,O,F,Z,d,O',r,sl,e,k⟩:=h;obtain⟨x,O1,Y,e⟩:=Res.bind_ok e;obtain⟨y,O2,W,e⟩:=Res.bind_ok e;split at e
 ·rename_i d' L;cases e;refine⟨ρ,_,F,Z,_,_,r,sl,Y,λv H1 F1 m f C I=>?_⟩;refine⟨ρ,_,F1,m,_,_,C,sl.step f,W,λu H2 F2 j c b J=>?_⟩;refine⟨_,F2,j,_,_,_,b,Sv.lk (Sv.gr I c) b,Sv.lk J b,L,λq H' F' U E G=>?_⟩;exact k q H' F' _ ((f.trans c).trans U) E (iD _ _ _ _ _ _ _ (λa T=>(f.trans c).dm a T) G)
 ·cases e
def nu      (b:OpD X (binaryOp op) g)(c:SE X md P f ma)(hb:SE X md P d mb):OE X md P (.BinOp f op d j) (ak g ma mb):=
 (QC b c hb).imp λ_ _ _=>w6
def Fo      (b:OpD X (compareOp op) g)(d:SE X md P j ma)(hb:SE X md P f mb)(c:behindInMarks op f=false):OE X md P (.Compare j [op] [f] m) (ak g ma mb):=
 (QZ b d hb c).imp λ_ _ _=>w6
noncomputable def az(m:M D):M Bool:=λρ O=>(m ρ O).bind λd c=>match d with
 | .bl b=>.ok b c
 | _=>.no
def nC{K:Frag}      (h:tMT K mg md P (az m) σ H Q):sr (tM K mg md P (rO K) m) σ H Q:=by
 obtain⟨ρ,O,F,x,d,L,r,sl,e,k⟩:=h;obtain⟨d,J,u,e⟩:=Res.bind_ok e
 cases d with
 |bl c =>
  cases e;refine⟨ρ,_,F,x,_,_,r,sl,u,λv y C E j f b=>?_⟩
  rcases b with⟨_,b⟩ | ⟨a,G,I,_,q,_⟩
  ·exact⟨_,b.unB,k y C _ j f⟩
  ·cases q
 | _=>cases e
def pU      (b:OpD X (compareOp op) g)(d:SE X md P j ma)(hb:SE X md P f mb)(c:behindInMarks op f=false):TsE X md P (.Compare j [op] [f] m) (az (ak g ma mb)):=
 (Dt b d hb c).imp λσ H Q h=>by
  have q:=nC h;exact w6 q
def fQ(g g':D->D->Option D)(ma mb f:M D):M D:=λρ O=>(ma ρ O).bind λx j=>(mb ρ j).bind λy b=>match g (aW b x) (aW b y) with
 |some (.bl true)=>(f ρ b).bind λz c=>match g' (aW c y) (aW c z) with
  |some d=>.ok d c
  |none=>.no
 |some (.bl false)=>.ok (.bl false) b
 | _=>.no
def Fp{K:Frag}       (h:tM K mg md P (rO K) (fQ g j ma mb mc) σ H Q):
  wz (rD K mg g) (rD K mg j) (tM K mg md P (rS K) ma) (tM K mg md P (rS K) mb) (tM K mg md P (rS K) mc) σ H Q:=by
 obtain⟨ρ,O,F,as,d,O',r,sl,e,k⟩:=h;obtain⟨x,O1,e1,e⟩:=Res.bind_ok e;obtain⟨y,O2,e2,e⟩:=Res.bind_ok e;refine⟨ρ,_,F,as,_,_,r,sl,e1,λv H1 F1 Z L r1 hv=>?_⟩;refine⟨ρ,_,F1,Z,_,_,r1,sl.step L,e2,λu H2 F2 c m f E=>?_⟩;split at e
 ·rename_i G;obtain⟨z,O3,e3,e⟩:=Res.bind_ok e;refine⟨_,F2,c,_,_,_,f,Sv.lk (Sv.gr hv m) f,Sv.lk E f,G,λv' H' T j C b=>?_⟩
  rcases b with⟨_,b⟩ | ⟨a,xs,ds,_,z,_⟩
  ·refine⟨true,b.unB,?_⟩;split at e
   ·rename_i d' W;cases e;have J:=(L.trans m).trans j;refine⟨ρ,_,T,c,_,_,C,sl.step J,e3,λw H4 F4 Y I q hz=>?_⟩;refine⟨_,F4,Y,_,_,_,q,Sv.lk (Sv.gr (Sv.gr E j) I) q,Sv.lk hz q,W,λv5 H5 F5 g5 r5 U=>?_⟩;exact k v5 H5 F5 _ ((J.trans I).trans g5) r5 (iD _ _ _ _ _ _ _ (λa ha=>(J.trans I).dm a ha) U)
   ·cases e
  ·cases z
 ·rename_i G;cases e;refine⟨_,F2,c,_,_,_,f,Sv.lk (Sv.gr hv m) f,Sv.lk E f,G,λv' H' T j C b=>?_⟩
  rcases b with⟨_,b⟩ | ⟨a,xs,ds,_,z,_⟩
  ·refine⟨false,b.unB,?_⟩;exact k _ H' T _ ((L.trans m).trans j) C (.inl ⟨rfl,Rp.bl⟩)
  ·cases z
 ·cases e
def UL      (f:OpD X (compareOp op) g)(d:OpD X (compareOp u) g')(q:SE X md P a ma)(hb:SE X md P b mb)(m:SE X md P c x)
  (j:lastMarks [op,u] [b,c]=false:=by with_unfolding_all rfl):OE X md P (.Compare a [op,u] [b,c] pos) (fQ g g' ma mb x):=(Q0 f d q hb m j).imp λ_ _ _=>Fp
def UT      (f:OpD X (compareOp op) g)(d:OpD X (compareOp u) g')(q:SE X md P a ma)(hb:SE X md P b mb)(m:SE X md P c x)
  (j:lastMarks [op,u] [b,c]=false:=by with_unfolding_all rfl):TsE X md P (.Compare a [op,u] [b,c] pos) (az (fQ g g' ma mb x)):=(Q3 f d q hb m j).imp λ_ _ _ h=>Fp (nC h)
def isNon:D->Bool
 | .non=>true
 | _=>false
def jE(m:M D):M D:=λρ O=>(m ρ O).bind λd b=>.ok (.bl (isNon d)) b
def iG(m:M D):M D:=λρ O=>(m ρ O).bind λd b=>.ok (.bl (!isNon d)) b
def Sv.isN{K:Frag}     (h:Sv K H F j v d):decide (v=.non)=isNon d:=by
 rcases h with h | ⟨a,c,f,rfl,rfl,_⟩
 ·cases d with
  |non=>rw[h.unN];rfl
  |bl b=>rw[h.unB];rfl
  |int b=>rw[h.unI];rfl
  |str b=>rw[h.unS];rfl
  |lst b=>obtain⟨a,c,rfl,_⟩:=h.unL;rfl
  |tup b=>obtain⟨a,c,rfl,_⟩:=h.unT;rfl
  |dic k b=>obtain⟨a,c,rfl,_⟩:=h.unD;rfl
  |ob b=>obtain⟨a,rfl,_⟩:=h.unO;rfl
 ·rfl
def UV{K:Frag}      (h:tM K mg md P (rO K) (jE m) σ H Q):CZ (tM K mg md P (rS K) m) σ H Q:=by
 obtain⟨ρ,O,F,q,d,G,r,sl,e,k⟩:=h;obtain⟨x,E,j,e⟩:=Res.bind_ok e;cases e;refine⟨ρ,_,F,q,_,_,r,sl,j,λv u y C f b c=>?_⟩;rw[Sv.isN c];exact k _ u y _ f b (.inl ⟨rfl,Rp.bl⟩)
def UW{K:Frag}      (h:tM K mg md P (rO K) (iG m) σ H Q):Dc (tM K mg md P (rS K) m) σ H Q:=by
 obtain⟨ρ,O,F,q,d,G,r,sl,e,k⟩:=h;obtain⟨x,E,j,e⟩:=Res.bind_ok e;cases e;refine⟨ρ,_,F,q,_,_,r,sl,j,λv u y C f b c=>?_⟩;rw[Sv.isN c];exact k _ u y _ f b (.inl ⟨rfl,Rp.bl⟩)
def Fq     (h:∀b,t σ H b->t' σ H b)(q:sr t σ H Q):tB t' σ H Q:=h _ q
def U0     (h:SE X md P a m):TsE X md P (.Compare a [.Is] [.Constant .none j b] c) (az (jE m)):=(v7 (Pa h)).imp λ_ _ _ q=>Fq (λ_=>UV) (nC q)
def U3     (h:SE X md P a m):TsE X md P (.Compare a [.IsNot] [.Constant .none j b] c) (az (iG m)):=(v7 (Pb h)).imp λ_ _ _ q=>Fq (λ_=>UW) (nC q)
def nD:D->Option Bool
 | .non=>some false
 | .bl b=>some b
 | .int i=>some (i != 0)
 | .str l=>if l.length<=1000000 then some (!l.isEmpty) else none
 | .lst ds=>some (!ds.isEmpty)
 | .tup ds=>some (!ds.isEmpty)
 | .dic ks _=>some (!ks.isEmpty)
 | .ob _=>none
def bj(m:M D):M Bool:=λρ O=>(m ρ O).bind λd c=>match nD (aW c d) with
 |some b=>.ok b c
 |none=>.no
def Ft{α β:Type}{xs:List α}{ys:List β}(h:xs.length=ys.length):(!xs.isEmpty) = !ys.isEmpty:=by
 cases xs<;>cases ys<;>simp_all
def Lk.tru{K:Frag}      (h:Lk K H F as v d)(fh:Same F H)(e:nD d=some b):wA K v H b:=by
 cases d with
 |non=>rw[(h.rp rfl).unN];cases e;rfl
 |bl b=>rw[(h.rp rfl).unB];cases e;rfl
 |int b=>rw[(h.rp rfl).unI];cases e;rfl
 |str l =>
  rw[(h.rp rfl).unS];simp only[nD] at e;split at e
  ·rename_i m;cases e;refine⟨by rw[gJ];exact eQ m,?_⟩;rw[gJ]
   cases l with
   |nil=>rfl
   |cons c l =>
    have:((((c::l).length:Nat):Int) != 0)=true:=by
     rw[bne_iff_ne,zz];omega
    rw[this];rfl
  ·cases e
 |lst ds =>
  obtain⟨a,j,rfl,h1,h2⟩:=h.list fh;cases e;exact .inl ⟨j,h1.sq,(Ft h2.length).symm⟩
 |tup ds =>
  obtain⟨a,j,rfl,h1,h2⟩:=(h.rp rfl).unT;cases e;exact .inr (.inl ⟨j,Same.seqT fh h1,(Ft h2.length).symm⟩)
 |dic ks vs =>
  obtain⟨a,f,rfl,h1,rfl,h2⟩:=(h.rp rfl).unD;cases e;exact .inr (.inr ⟨f,fh _ _ h1,by cases f<;>rfl⟩)
 |ob n=>cases e
def U4   (h:SE X md P a m)(j:∀whole,isTrue a X.env whole=(do let v <-whole;standAt a.pos;holding [v] (truthy v)):=by intro _;rfl):TsE X md P a (bj m):=(Q5 h j).imp λσ H Q q=>by
 obtain⟨ρ,O,F,C,d,L,r,sl,e,k⟩:=q;obtain⟨d,J,y,e⟩:=Res.bind_ok e;split at e
 ·rename_i c u;cases e;exact⟨ρ,_,F,C,_,_,r,sl,y,λv E G I x b f=>⟨_,Lk.tru (Sv.lk f b) b.fh u,k E G _ x b⟩⟩
 ·cases e
noncomputable def bQ(a b:M Bool):M Bool:=λρ O=>(a ρ O).bind λc d=>if c=true then b ρ d else .ok false d
noncomputable def bL(a b:M Bool):M Bool:=λρ O=>(a ρ O).bind λc d=>if c=true then .ok true d else b ρ d
noncomputable def bY(a:M Bool):M Bool:=λρ O=>(a ρ O).bind λc b=>.ok (!c) b
def U5{K:Frag}      (h:tMT K mg md P (bQ ma mb) σ H Q):Dd (tMT K mg md P ma) (tMT K mg md P mb) σ H Q:=by
 obtain⟨ρ,O,F,y,d,L,r,sl,e,k⟩:=h;obtain⟨c,J,x,e⟩:=Res.bind_ok e;refine⟨ρ,_,F,y,_,_,r,sl,x,λE m f b j=>?_⟩
 cases c with
 |true =>
  exact⟨ρ,_,m,f,_,_,j,sl.step b,e,λC G I u q=>k C G _ (b.trans u) q⟩
 |false =>
  cases e;exact k E m _ b j
def U6{K:Frag}      (h:tMT K mg md P (bL ma mb) σ H Q):tOr (tMT K mg md P ma) (tMT K mg md P mb) σ H Q:=by
 obtain⟨ρ,O,F,y,d,L,r,sl,e,k⟩:=h;obtain⟨c,J,x,e⟩:=Res.bind_ok e;refine⟨ρ,_,F,y,_,_,r,sl,x,λE m f b j=>?_⟩
 cases c with
 |true =>
  cases e;exact k E m _ b j
 |false =>
  exact⟨ρ,_,m,f,_,_,j,sl.step b,e,λC G I u q=>k C G _ (b.trans u) q⟩
def U7    (h:TsE X md P a m):TwE X md P (.BoolOp .And [a] b) m:=Ph h
def U8    (h:TsE X md P a m):TwE X md P (.BoolOp .Or [a] b) m:=Pj h
def U9  {rest:List Expr}   (c:TsE X md P a ma)(hb:TwE X md P (.BoolOp .And (b::rest) d) mb):TwE X md P (.BoolOp .And (a::b::rest) d) (bQ ma mb):=(Pk c hb).imp λ_ _ _=>U5
def Va  {rest:List Expr}   (c:TsE X md P a ma)(hb:TwE X md P (.BoolOp .Or (b::rest) d) mb):TwE X md P (.BoolOp .Or (a::b::rest) d) (bL ma mb):=(Pn c hb).imp λ_ _ _=>U6
def Vb   (h:TwE X md P e m):TsE X md P e m:=PW.pt h
def Vc    (h:TsE X md P a m):TsE X md P (.UnaryOp .Not a x) (bY m):=(Pq h).imp λσ H Q q=>by
 obtain⟨ρ,O,F,f,d,u,r,sl,e,k⟩:=q;obtain⟨c,j,b,e⟩:=Res.bind_ok e;cases e;exact⟨ρ,_,F,f,_,_,r,sl,b,k⟩
noncomputable def d7(ma mb:M D):M D:=λρ O=>(ma ρ O).bind λd b=>match d with
 | .bl true=>mb ρ b
 | .bl false=>.ok (.bl false) b
 | _=>.no
noncomputable def Vd(ma mb:M D):M D:=λρ O=>(ma ρ O).bind λd b=>match d with
 | .bl true=>.ok (.bl true) b
 | .bl false=>mb ρ b
 | _=>.no
noncomputable def tH(ma:M D):M D:=λρ O=>(ma ρ O).bind λd c=>match d with
 | .bl b=>.ok (.bl (!b)) c
 | _=>.no
def Ve     (h:VE X md P a m):VE X md P (.BoolOp op [a] b) m:=Py h
theorem Vf  {rest:List Expr}   (I:VE X md P a ma)(hb:VE X md P (.BoolOp .And (b::rest) pos) mb):VE X md P (.BoolOp .And (a::b::rest) pos) (d7 ma mb):=(Pz I hb).imp λσ H Q q=>by
 obtain⟨ρ,O,F,T,d,O',r,sl,e,k⟩:=q;obtain⟨x,O1,L,e⟩:=Res.bind_ok e;refine⟨ρ,_,F,T,_,_,r,sl,L,λv W y m f u G=>?_⟩
 cases x with
 |bl c =>
  refine⟨c,Rp.unB G,?_⟩
  cases c with
  |true =>
   exact⟨ρ,_,y,m,_,_,u,sl.step f,e,λC U Y Z J E j=>k C U Y _ (f.trans J) E j⟩
  |false =>
   cases e;exact k _ W y _ f u Rp.bl
 | _=>cases e
theorem Vg    (h:VE X md P a m):VE X md P (.UnaryOp .Not a pos) (tH m):=(PB h).imp λσ H Q q=>by
 obtain⟨ρ,O,F,y,d,J,r,sl,e,k⟩:=q;obtain⟨x,I,u,e⟩:=Res.bind_ok e;refine⟨ρ,_,F,y,_,_,r,sl,u,λv C E G j b f=>?_⟩
 cases x with
 |bl c =>
  cases e;exact⟨c,Rp.unB f,k _ C E _ j b Rp.bl⟩
 | _=>cases e
noncomputable def mIf(t:M Bool)(a b:M D):M D:=λρ O=>(t ρ O).bind λc d=>if c=true then a ρ d else b ρ d
theorem Vh(I:eO R)     (G:TsE X md P c mc)(f:PE X a (tM X.K X.mg md P R ma))(hb:PE X b (tM X.K X.mg md P R mb)):PE X (.IfExp c a b pos) (tM X.K X.mg md P R (mIf mc ma mb)):=(PJ G f hb).imp λσ H Q q=>by
 obtain⟨ρ,O,F,T,d,O',r,sl,e,k⟩:=q;obtain⟨x,O1,L,e⟩:=Res.bind_ok e;refine⟨ρ,_,F,T,_,_,r,sl,L,λH1 Y u j E=>?_⟩
 cases x with
 | true
 |false =>
  exact⟨ρ,_,Y,u,_,_,E,sl.step j,e,λy U W Z J C m=>k y U W _ (j.trans J) C (I _ _ _ _ _ _ _ (λa f=>j.dm a f) m)⟩
def Vi     (d:TsE X md P c j)(f:VE X md P a ma)(hb:VE X md P b mb):VE X md P (.IfExp c a b m) (mIf j ma mb):=Vh kE d f hb
end
def SlO.set{K:Frag}     (s:SlO K md P ρ σ H F U)(y:md[i]?=some m)(J:m≠.s)(hv:gK P K H F U m v d)
  (L:∀(a:Addr) (ds:List D) (j:Nat) (es:List D),m=.o->v=.ref a->d=.lst ds->i≠j->md[j]?=some .o->ρ[j]?=some (some (.lst es))->σ[j]?≠some (some (.ref a))):SlO K md P (ρ.set i (some d)) (σ.set i (some v)) H F U:=by
 have f:i<md.length:=(zt.mp y).1;refine⟨by rw[zV];exact s.len,by rw[zV];exact s.len',s.pd,λj R T I E=>?_,λj k a ds es h1 h2 h3 h4 u q=>?_,λx hx=>?_⟩
 ·by_cases h:i=j
  ·subst h;rw[y] at I;cases I;rw[zQ (by rw[s.len'];exact f)] at E;cases E;exact⟨v,zQ (by rw[s.len];exact f),hv⟩
  ·rw[zh h] at E;rw[zh h];exact s.sl j R T I E
 ·by_cases c:i=j
  ·by_cases b:i=k
   ·rw[<-c,<-b]
   ·exfalso
    subst c;rw[y] at h1;cases h1;rw[zQ (by rw[s.len'];exact f)] at h3;rw[zQ (by rw[s.len];exact f)] at u;rw[zh b] at h4 q;cases h3;cases u;exact L a ds k es rfl rfl rfl b h2 h4 q
  ·by_cases b:i=k
   ·exfalso
    subst b;rw[y] at h2;cases h2;rw[zQ (by rw[s.len'];exact f)] at h4;rw[zQ (by rw[s.len];exact f)] at q;rw[zh c] at h3 u;cases h4;cases q;exact L a es j ds rfl rfl rfl c h1 h3 u
   ·rw[zh c] at h3 u;rw[zh b] at h4 q;exact s.inj j k a ds es h1 h2 h3 h4 u q
 ·obtain⟨G,Q,O⟩:=s.pin x hx
  have C:i≠x.1:=λz=>by
   rw[<-z,y] at G;exact J (zC G)
  exact⟨G,by rw[zh C];exact Q,by rw[zh C];exact O⟩
def SlO.setV{K:Frag}    (s:SlO K md P ρ σ H F c)(b:md[i]?=some .v)(hv:Rp K F c v d):SlO K md P (ρ.set i (some d)) (σ.set i (some v)) H F c :=
 s.set b (by decide) hv λ_ _ _ _ z=>nomatch z
def SlO.setN{K:Frag}    (s:SlO K md P ρ σ H F f)(c:md[i]?=some .o)(b:iC d=true)(hv:Rp K F f v d):SlO K md P (ρ.set i (some d)) (σ.set i (some v)) H F f :=
 s.set c (by decide) (.inl ⟨b,hv⟩) λ_ _ _ _ _ _ z=>by subst z;cases b
def SlO.setO{K:Frag}     (s:SlO K md P ρ σ Y F as)(g:Gr Y F as Z F' X)(f:md[i]?=some .o)(hv:Ow K (λa=>Y a=none) Z F' X v d):SlO K md P (ρ.set i (some d)) (σ.set i (some v)) Z F' X:=by
 have s':=s.step g
 rcases hv with⟨x,hv⟩ | ⟨a,u,O,rfl,rfl,L,J,I,m,G⟩
 ·exact s'.setN f x hv
 ·refine s'.set f (by decide) (.inr ⟨a,u,O,rfl,rfl,L,J,I,λp=>s.pd a p m,G⟩) λb T j U _ E hd R y C hs=>?_
  cases E;obtain⟨v,h1,h2⟩:=s.sl j .o _ y C;rw[hs] at h1;cases h1
  rcases h2 with⟨h2,_⟩ | ⟨W,Q,_,q,_,c,_⟩
  ·cases h2
  ·cases q;rw[m] at c;cases c
section
variable {X:Cx}{md:List Md}{P:Pt}{R:RR}
noncomputable def aG:MS:=λρ O=>.nx ρ O
noncomputable def aq(a b:MS):MS:=λρ O=>match a ρ O with
 | .nx ρ' O'=>b ρ' O'
 |r=>r
def Vj:VSs X md P R [] aG:=PP.imp λD σ H q=>by
 obtain⟨ρ,O,F,b,r,s,k⟩:=q;exact k σ H F b GrS.refl r s
def jF{K:Frag}  {D:Ends}   (g:GrS P H F as H1 F1 as1)  (k:gm K mg md P R D H F as f):gm K mg md P R D H1 F1 as1 f:=by
 cases f with
 | nx
 | bk
 | ct
 |rt =>exact λj c d m b=>k _ c d _ (g.trans b)
 | ex
 |no=>exact k
theorem Vk{st:Stmt}{rest:List Stmt}  (h1:VS X md P R st a)(h2:VSs X md P R rest b):VSs X md P R (st::rest) (aq a b):=(PQ h1 h2).imp λD σ H q=>by
 obtain⟨ρ,O,F,j,r,s,k⟩:=q;refine⟨ρ,O,F,j,r,s,?_⟩;unfold aq at k
 cases e:a ρ O with
 |nx ρ' O' =>
  rw[e] at k
  exact λu x m c g f d=>⟨ρ',O',m,c,f,d,jF g k⟩
 | bk
 | ct
 | rt
 | ex
 |no=>rw[e] at k;exact k
def Vl{st:Stmt}  (h1:VS X md P R st a):VSs X md P R [st] a:=PX h1
noncomputable def gM:MS:=λ_ _=>.no
def Vm{st:Stmt}:VS X md P R st gM:=Qf.imp λD σ H q=>by
 obtain⟨ρ,O,F,b,r,s,k⟩:=q;exact False.elim k
noncomputable def fC(m:M D):MS:=λρ O=>match m ρ O with
 | .ok _ O'=>.nx ρ O'
 | .ex x O'=>.ex x O'
 | .no=>.no
def Vn    (h:SE X md P e m)(hs:swapsWith e none pos.line X.env=pure false:=by rfl):VS X md P R (.Expr e pos) (fC m):=(mY h hs).imp λD σ H q=>by
 obtain⟨ρ,O,F,b,r,s,k⟩:=q;unfold fC at k
 cases e:m ρ O with
 |ok  =>
  rw[e] at k;exact⟨ρ,_,F,b,_,_,r,s,e,λv H' F' as' g r' _=>k σ H' F' _ g.toS r' (s.step g)⟩
 | ex
 |no=>rw[e] at k;exact False.elim k
noncomputable def aA(m:M D):MS:=λρ O=>match m ρ O with
 | .ok d O'=>.rt d O'
 | .ex x O'=>.ex x O'
 | .no=>.no
theorem Fv(f:eO R)    (h:PE X e (tM X.K X.mg md P R m)):VS X md P R (.Return (some e) pos) (aA m):=(De h).imp λD σ H q=>by
 obtain⟨ρ,O,F,j,r,s,k⟩:=q;unfold aA at k
 cases e:m ρ O with
 |ok  =>
  rw[e] at k;exact⟨ρ,_,F,j,_,_,r,s,e,λv u x y g b c=>k v u x _ g.toS b (f _ _ _ _ _ _ _ (λa d p=>s.pd a p d) c)⟩
 | ex
 |no=>rw[e] at k;exact False.elim k
def Vo    (h:VE X md P e m):VS X md P (rV X.K) (.Return (some e) b) (aA m):=Fv kE h
def Vp    (h:OE X md P e m):VS X md P (rO X.K) (.Return (some e) b) (aA m):=Fv iD h
def Vq{X:Cx}{P:Pt}(i:Nat){x:Str}{p c:Pos}(u:md[i]?=some .o:=by rfl)(hN:X.N[i]?=some x:=by rfl)(m:Vis X.env.scope x:=by first | exact Or.inl rfl | exact Or.inr (Or.inl rfl) | exact Or.inr (Or.inr rfl))
  (hd:(x == ("__debug__":Str))=false:=by decide) (f:(x == ("__classdict__":Str))=false:=by decide):VS X md P (rO X.K) (.Return (some (.Name x p)) c) (aA (aa i)):=(De (j6 (i:=i) hN m hd f)).imp λD σ H q=>by
 obtain⟨ρ,O,F,Q,r,s,k⟩:=q;unfold aA at k
 cases e:aa i ρ O with
 |ok d T =>
  rw[e] at k;obtain⟨b,rfl⟩:=tG e;obtain⟨v,h1,h2⟩:=s.sl i .o d u b;refine⟨v,h1,k v H F Q GrS.refl r ?_⟩
  rcases h2 with h2 | ⟨a,j,L,b,I,G,J,E,C,y⟩
  ·exact .inl h2
  ·exact .inr ⟨a,j,L,b,I,G,J,E,C,y⟩
 |ex x T=>rw[e] at k;exact False.elim k
 |no=>rw[e] at k;exact False.elim k
noncomputable def aD(t:M Bool)(a b:MS):MS:=λρ O=>match t ρ O with
 | .ok c O'=>if c=true then a ρ O' else b ρ O'
 | .ex x O'=>.ex x O'
 | .no=>.no
theorem Vr      (j:TsE X md P c t)(m:VSs X md P R a ma)(hb:VSs X md P R b mb):VS X md P R (.If c a b pos) (aD t ma mb):=(Qd j m hb).imp λD σ H q=>by
 obtain⟨ρ,O,F,u,r,s,k⟩:=q;unfold aD at k
 cases e:t ρ O with
 |ok c O' =>
  rw[e] at k;refine⟨ρ,_,F,u,_,_,r,s,e,λy x d g f=>?_⟩
  cases c with
  | true
  |false =>
   exact⟨ρ,O',x,d,f,s.step g,jF g.toS k⟩
 | ex
 |no=>rw[e] at k;exact False.elim k
noncomputable def aB(i:Nat)(m:M D):MS:=λρ O=>match m ρ O with
 | .ok d O'=>.nx (ρ.set i (some d)) O'
 | .ex x O'=>.ex x O'
 | .no=>.no
def Fw{K:Frag}     (f:md[i]?=some .v)(d:∀σ H Q,tM K mg md P (rV K) m σ H Q->t σ H Q){D:Ends}   (q:tMS K mg md P R (aB i m) D σ H):pH t (pF i) D σ H:=by
 obtain⟨ρ,O,F,j,r,s,k⟩:=q;unfold aB at k
 cases e:m ρ O with
 |ok  =>
  rw[e] at k;exact d _ _ _ ⟨ρ,_,F,j,_,_,r,s,e,λv u x y g b c=>k _ u x _ g.toS b ((s.step g).setV f c)⟩
 | ex
 |no=>rw[e] at k;exact False.elim k
def Fx{K:Frag}     (f:md[i]?=some .o)(d:∀σ H Q,tM K mg md P (rO K) m σ H Q->t σ H Q){D:Ends}   (q:tMS K mg md P R (aB i m) D σ H):pH t (pF i) D σ H:=by
 obtain⟨ρ,O,F,j,r,s,k⟩:=q;unfold aB at k
 cases e:m ρ O with
 |ok  =>
  rw[e] at k;exact d _ _ _ ⟨ρ,_,F,j,_,_,r,s,e,λv u x y g b c=>k _ u x _ g.toS b (s.setO g f c)⟩
 | ex
 |no=>rw[e] at k;exact False.elim k
def Vs{R:RR}    {b pos':Pos}  (hN:X.N.Nodup)(d:X.N[i]?=some x)(hx:Loc X.env.scope x)(h:VE X md P e m)(c:md[i]?=some .v:=by rfl)(hs:swapsWith e (some (.Name x pos')) b.line X.env=pure false:=by rfl)
  (f:X.fn x=true\/X.env.scope.names.lookup x=some .local:=by first | exact .inl rfl | exact .inr rfl | assumption):VS X md P R (.Assign [.Name x pos'] e b) (aB i m):=(Dj hN d hx h hs).imp λD σ H q=>Fw c (λ_ _ _ z=>z) q
def Vt{R:RR}    {b pos':Pos}  (hN:X.N.Nodup)(d:X.N[i]?=some x)(hx:Loc X.env.scope x)(h:OE X md P e m)(c:md[i]?=some .o:=by rfl)(hs:swapsWith e (some (.Name x pos')) b.line X.env=pure false:=by rfl)
  (f:X.fn x=true\/X.env.scope.names.lookup x=some .local:=by first | exact .inl rfl | exact .inr rfl | assumption):VS X md P R (.Assign [.Name x pos'] e b) (aB i m):=(Dj hN d hx h hs).imp λD σ H q=>Fx c (λ_ _ _ z=>z) q
abbrev MG:=D->aM->Option aM
inductive tMG (K:Frag) (mg:Str->Option Value) (md:List Md) (P:Pt) (g:MG) (v:V) (σ:St) (H:Hp) (Q:(St->Hp->Prop)):Prop
 | mk:∀ρ O F as d ρ',RlO K mg O H F as->SlO K md P ρ σ H F as->Rp K F as v d->g d ρ=some ρ'->(∀σ',SlO K md P ρ' σ' H F as->Q σ' H)->tMG K mg md P g v σ H Q
inductive Fy (K:Frag) (mg:Str->Option Value) (md:List Md) (P:Pt) (g:List D->aM->Option aM) (vs:List V) (σ:St) (H:Hp) (Q:(St->Hp->Prop)):Prop
 | mk:∀ρ O F as ds ρ',RlO K mg O H F as->SlO K md P ρ σ H F as->Rps K F as vs ds->g ds ρ=some ρ'->(∀σ',SlO K md P ρ' σ' H F as->Q σ' H)->Fy K mg md P g vs σ H Q
def VG(X:Cx)(md:List Md)(P:Pt)(b:Expr)(g:MG):Prop:=PG X b (tMG X.K X.mg md P g)
def VGs(X:Cx)(md:List Md)(P:Pt)(b:List Expr)(g:List D->aM->Option aM):Prop:=PGs X b (Fy X.K X.mg md P g)
def PG.imp   (h:PG X e t)(k:∀v σ H Q,t' v σ H Q->t v σ H Q):PG X e t':=λpins s σ H v u Q I r q=>h pins s σ H v u Q I r (k v σ H Q q)
def PGs.imp   (h:PGs X e t)(k:∀v σ H Q,t' v σ H Q->t v σ H Q):PGs X e t':=λpins s σ H v u Q I r q=>h pins s σ H v u Q I r (k v σ H Q q)
noncomputable def mgN(i:Nat):MG:=λd ρ=>some (ρ.set i (some d))
def Vu{X:Cx}{P:Pt}   {b:Pos}(hN:X.N.Nodup)(j:X.N[i]?=some x)(hx:Loc X.env.scope x)(f:md[i]?=some .v:=by rfl)(u:X.fn x=true\/X.env.scope.names.lookup x=some .local:=by first | exact .inl rfl | exact .inr rfl | assumption):VG X md P (.Name x b) (mgN i):=
 (Qg hN j hx).imp λv σ H Q q=>by
  obtain⟨ρ,O,F,y,d,m,r,s,c,e,k⟩:=q;cases e;exact k _ (s.setV f c)
noncomputable def d8:List D->aM->Option aM:=λb ρ=>match b with
 | []=>some ρ
 | _=>none
noncomputable def bM(g:MG)(r:List D->aM->Option aM):List D->aM->Option aM:=λb ρ=>match b with
 |d::b=>(g d ρ).bind λc=>r b c
 | []=>none
theorem Vv:VGs X md P [] d8:=Qj.imp λv σ H Q q=>by
 obtain⟨ρ,O,F,f,c,d,r,s,b,e,k⟩:=q
 cases c with
 |nil=>cases e;exact⟨b.un0,k _ s⟩
 |cons =>cases e
def Vw     (h1:VG X md P e g)(h2:VGs X md P es r)(hs:(assignEach (e::es) X.env).map (·.2)=assign e X.env::(assignEach es X.env).map (·.2):=by rfl):VGs X md P (e::es) (bM g r):=
 (Qk h1 h2 hs).imp λv σ H Q q=>by
  obtain⟨ρ,O,F,j,b,c,f,s,y,e,k⟩:=q
  cases b with
  |nil=>cases e
  |cons d b =>
   obtain⟨x,u,rfl,hx,C⟩:=y.un;unfold bM at e
   dsimp  at e
   cases e1:g d ρ with
   |none=>rw[e1] at e;cases e
   |some ρ1 =>
    rw[e1] at e;exact⟨x,u,rfl,ρ,O,F,j,d,ρ1,f,s,hx,e1,λE m=>⟨ρ1,O,F,j,b,c,f,m,C,e,k⟩⟩
noncomputable def dM(n:Nat)(r:List D->aM->Option aM):MG:=λd ρ=>match d with
 | .tup ds=>if ds.length=n then r ds ρ else none
 | _=>none
def Vx  {c:Pos}{k:Nat}  (n:Nat)(C:X.calm=true)(h:VGs X md P es r)(x:(assignEach es X.env).length=n:=by rfl)(f:(assignEach es X.env).findIdx? (·.1)=none:=by rfl):VG X md P (.Tuple es k c) (dM n r):=
 (Qm C h x f).imp λv σ H Q q=>by
  obtain⟨ρ,O,F,E,d,b,j,s,u,e,k⟩:=q
  cases d with
  |tup ds =>
   obtain⟨a,m,rfl,h1,h2⟩:=u.unT;unfold dM at e
   dsimp  at e
   split at e
   ·rename_i y;exact⟨a,m,rfl,Same.seqT j.fh h1,by rw[h2.length];exact y,ρ,O,F,E,ds,b,j,s,h2,e,k⟩
   ·cases e
  | _=>cases e
noncomputable def jG(m:M D)(g:MG):MS:=λρ O=>match m ρ O with
 | .ok d O'=>match g d ρ with
  |some b=>.nx b O'
  |none=>.no
 | .ex x O'=>.ex x O'
 | .no=>.no
def Vy{R:RR}  {b:Pos}   (h:VE X md P e m)(E:VG X md P tg g)(hs:swapsWithSole [tg] e b.line X.env=pure false:=by rfl)(y:swappedStores [tg] e X.env=pure none:=by rfl)
  (h1:(assignEach [tg] X.env).map (·.2)=[assign tg X.env]:=by rfl):VS X md P R (.Assign [tg] e b) (jG m g):=(Di h E hs y h1).imp λD σ H q=>by
 obtain⟨ρ,O,F,G,r,s,k⟩:=q;unfold jG at k
 cases e:m ρ O with
 |ok d O' =>
  rw[e] at k
  dsimp  at k
  cases e2:g d ρ with
  |none=>rw[e2] at k;exact False.elim k
  |some ρ' =>
   rw[e2] at k;refine⟨ρ,_,F,G,_,_,r,s,e,λv I u c j f C=>?_⟩;exact⟨ρ,O',u,c,d,ρ',f,s.step j,C,e2,λJ x=>k _ I u _ j.toS f x⟩
 | ex
 |no=>rw[e] at k;exact False.elim k
end
structure lW(K:Frag)(mg:Str->Option Value)(P:Pt)(J:It)(ds:List D)(H F:Hp)(as:List Addr):Prop where
 turn:∀(i:Nat) (d:D) (H2 F2:Hp) (as2:List Addr),GrS P H F as H2 F2 as2->(∃O,RlO K mg O H2 F2 as2)->ds[i]?=some d->J.go i H2/\∀x H3,J.yld i H2 x H3->∃F3,Gr H2 F2 as2 H3 F3 as2/\(∀O,RlO K mg O H2 F2 as2->RlO K mg O H3 F3 as2)/\Rp K F3 as2 x d
 stop:∀(H2 F2:Hp) (as2:List Addr),GrS P H F as H2 F2 as2->(∃O,RlO K mg O H2 F2 as2)->J.stop ds.length H2
structure Fz(K:Frag)(mg:Str->Option Value)(J:It)(ds:List D)(H F:Hp)(as:List Addr):Prop where
 turn:∀(i:Nat) (d:D) (H2 F2:Hp) (as2:List Addr),Gr H F as H2 F2 as2->(∃O,RlO K mg O H2 F2 as2)->ds[i]?=some d->J.go i H2/\∀x H3,J.yld i H2 x H3->∃F3,Gr H2 F2 as2 H3 F3 as2/\(∀O,RlO K mg O H2 F2 as2->RlO K mg O H3 F3 as2)/\Rp K F3 as2 x d
 stop:∀(H2 F2:Hp) (as2:List Addr),Gr H F as H2 F2 as2->(∃O,RlO K mg O H2 F2 as2)->J.stop ds.length H2
def lW.e{K:Frag}       (h:lW K mg P J ds H F j):Fz K mg J ds H F j:=⟨λi d c f b g=>h.turn i d c f b g.toS,λc f b g=>h.stop c f b g.toS⟩
inductive xf (K:Frag) (mg:Str->Option Value) (md:List Md) (P:Pt) (m:M (List D)) (σ:St) (H:Hp) (Q:(It->Hp->Prop)):Prop
 | mk:∀ρ O F as ds O',RlO K mg O H F as->SlO K md P ρ σ H F as->m ρ O=.ok ds O'->(∀J H' F' as',Gr H F as H' F' as'->RlO K mg O' H' F' as'->Fz K mg J ds H' F' as'->Q J H')->xf K mg md P m σ H Q
def VIc(X:Cx)(md:List Md)(P:Pt)(b iter:Expr)(m:M (List D)):Prop:=PI X b iter (xf X.K X.mg md P m)
inductive tMI (K:Frag) (mg:Str->Option Value) (md:List Md) (P:Pt) (m:M (List D)) (σ:St) (H:Hp) (Q:(It->Hp->Prop)):Prop
 | mk:∀ρ O F as ds O',RlO K mg O H F as->SlO K md P ρ σ H F as->m ρ O=.ok ds O'->(∀J H' F' as',Gr H F as H' F' as'->RlO K mg O' H' F' as'->lW K mg P J ds H' F' as'->Q J H')->tMI K mg md P m σ H Q
def VI(X:Cx)(md:List Md)(P:Pt)(b iter:Expr)(m:M (List D)):Prop:=PI X b iter (tMI X.K X.mg md P m)
def PI.imp   (h:PI X b e t)(k:∀σ H Q,t' σ H Q->t σ H Q):PI X b e t':=λpins s σ H Q I q=>h pins s σ H Q I (k σ H Q q)
def xg   (h:VI X md P C e m):VIc X md P C e m:=h.imp λσ H Q q=>by
 obtain⟨ρ,O,F,f,d,j,r,s,e,k⟩:=q;exact⟨ρ,O,F,f,d,j,r,s,e,λJ u x y g b c=>k J u x _ g b c.e⟩
noncomputable def bB(g:MG)(b:MS):List D->MS
 | [],ρ,O=>.nx ρ O
 |d::ds,ρ,O=>match g d ρ with
  |none=>.no
  |some c=>match b c O with
   | .nx ρ2 O2=>bB g b ds ρ2 O2
   | .ct ρ2 O2=>bB g b ds ρ2 O2
   | .bk ρ2 O2=>.nx ρ2 O2
   |r=>r
def cA(m:M (List D))(g:MG)(b:MS):MS:=λρ O=>match m ρ O with
 | .ok ds O'=>bB g b ds ρ O'
 | .ex x O'=>.ex x O'
 | .no=>.no
def Vz{K:Frag}     {D:Ends}   (q:tMS K mg md P R (cA m g b) D σ H):v9 (tMI K mg md P m) (tMG K mg md P g) (tMS K mg md P R b) D σ H:=by
 obtain⟨ρ,O,F,as,r,s,k⟩:=q;unfold cA at k
 cases e:m ρ O with
 | ex
 |no=>rw[e] at k;exact False.elim k
 |ok ds O1 =>
  rw[e] at k;refine⟨ρ,_,F,as,_,_,r,s,e,λJ H1 F1 as1 g1 r1 hJ=>?_⟩;have k1:=jF g1.toS k;refine⟨λi m U C=>m=ds.length - i/\i<=ds.length/\∃j d G c,GrS P H1 F1 _ C G c/\RlO K mg d C G c/\SlO K md P j U C G c/\gm K mg md P R D C G c (bB g b (ds.drop i) j d),⟨ds.length,by simp,Nat.zero_le _,ρ,O1,F1,as1,GrS.refl,r1,s.step g1,by exact k1⟩,?_⟩;rintro i n U C ⟨rfl,hi,j,d,G,c,g',r',s',k'⟩
  by_cases L:i<ds.length
  ·have hd:=zw L;obtain⟨go,yl⟩:=hJ.turn i _ C G _ g' ⟨d,r'⟩ hd;rw[List.drop_eq_getElem_cons L] at k';refine .inr ⟨go,λT u=>∃I Y E Q,GrS P H1 F1 _ u E _/\RlO K mg Y u E _/\SlO K md P _ _ u E _/\gm K mg md P R D u E _ _,λT u h2=>⟨ds.length - (i+1),by omega,rfl,L,h2⟩,λx H3 y=>?_⟩;obtain⟨F3,W,r3,hx⟩:=yl x H3 y;have r3':=r3 d r';unfold bB at k'
   cases eg:g _ _ with
   |none=>rw[eg] at k';exact False.elim k'
   |some ρ1 =>
    rw[eg] at k'
    dsimp  at k'
    refine⟨j,d,F3,c,ds[i],ρ1,r3',s'.step W,hx,eg,λσ4 s4=>?_⟩;refine⟨ρ1,d,F3,c,r3',s4,?_⟩;have g4 :=g'.trans W.toS
    have keep:=λ{f}=>jF (K:=K) (mg:=mg) (md:=md) (R:=R) (D:=D) (f:=f) W.toS (P:=P)
    cases eb:b _ d with
    | nx I Y
    |ct I Y =>
     rw[eb] at k'
     exact λT u E Q X r2 Z=>⟨I,Y,E,Q,g4.trans X,r2,Z,jF X (keep k')⟩
    | bk
    |rt  =>
     rw[eb] at k'
     exact λv u E Q X r2 Z=>k' v u E _ (W.toS.trans X) r2 Z
    | ex
    |no=>rw[eb] at k';exact False.elim k'
  ·have hi':i=ds.length:=by omega
   subst hi';refine .inl ⟨hJ.stop C G _ g' ⟨d,r'⟩,?_⟩;rw[List.drop_length] at k';exact k' _ C G _ GrS.refl r' s'
def FJ   {c:Pos}    (u:X.calm=true)(f:VI X md P C y m)(j:VG X md P C g)(hb:VSs X md P R body b)(d:PassesOwn (model X.prog X.w) X.A X.env X.xe:=by exact PassesOwn.never)
  (hs:∀x,foldedSetIterable y X.env x=pure x:=by intro _;rfl):VS X md P R (.For C y body [] c) (cA m g b):=(Dl d u f j hb hs).imp λ_ _ _ q=>Vz q
noncomputable def dh(t:M Bool)(b:MS):Nat->MS
 | 0,_,_=>.no
 |n+1,ρ,O=>match t ρ O with
  | .ok true O1=>match b ρ O1 with
   | .nx ρ2 O2=>dh t b n ρ2 O2
   | .ct ρ2 O2=>dh t b n ρ2 O2
   | .bk ρ2 O2=>.nx ρ2 O2
   |r=>r
  | .ok false O1=>.nx ρ O1
  | .ex x O'=>.ex x O'
  | .no=>.no
def gO(n:Nat)(t:M Bool)(b:MS):MS:=dh t b n
def VB{K:Frag}     {D:Ends}   (q:tMS K mg md P R (gO n t b) D σ H):Dk (tMT K mg md P t) (tMS K mg md P R b) D σ H:=by
 refine⟨λn d x=>tMS K mg md P R (dh t b n) D d x,⟨n,q⟩,?_⟩;rintro m σ1 H1 ⟨ρ,O,F,as,r,s,k⟩
 cases m with
 |zero=>exact False.elim k
 |succ m =>
  unfold dh at k
  cases e:t ρ O with
  | ex
  |no=>rw[e] at k;exact False.elim k
  |ok c O1 =>
   rw[e] at k;refine⟨ρ,_,F,as,_,_,r,s,e,λW T J j L=>?_⟩
   cases c with
   |false =>
    exact k _ W T _ j.toS L (s.step j)
   |true =>
    refine⟨λd x=>tMS K mg md P R _ D _ x,λd x U=>⟨m,jb m,U⟩,ρ,O1,T,J,L,s.step j,?_⟩
    dsimp  at k
    have keep:=λ{f}=>jF (K:=K) (mg:=mg) (md:=md) (R:=R) (D:=D) (f:=f) j.toS (P:=P)
    cases eb:b ρ O1 with
    | nx ρ2 O2
    |ct ρ2 O2 =>
     rw[eb] at k
     exact λI Q G u E C y=>⟨ρ2,O2,G,u,C,y,jF E (keep k)⟩
    | bk
    |rt  =>
     rw[eb] at k
     exact λI Q G u E C y=>k _ Q G _ (j.toS.trans E) C y
    | ex
    |no=>rw[eb] at k;exact False.elim k
def FN(n:Nat)      (f:TsE X md P c t)(hb:VSs X md P R body b)(d:PassesOwn (model X.prog X.w) X.A X.env X.xe:=by exact PassesOwn.never):VS X md P R (.While c body [] pos) (gO n t b):=
 (Qp d f hb).imp λ_ _ _ q=>VB q
noncomputable def cj(g:MG)(t:M Bool)(m:M D):List D->aM->au->List D->Res (List D)
 | [],ρ,O,acc=>.ok acc O
 |d::ds,ρ,O,acc=>match g d ρ with
  |none=>.no
  |some b=>match t b O with
   | .ok true O1=>match m b O1 with
    | .ok y O2=>cj g t m ds b O2 (acc++[y])
    | .ex x O'=>.ex x O'
    | .no=>.no
   | .ok false O1=>cj g t m ds b O1 acc
   | .ex x O'=>.ex x O'
   | .no=>.no
def eU(own:Nat)(cap:List Nat)(ρ:aM):aM:=List.replicate own none++cap.map λj=>(ρ[j]?).join
def b7(m:M (List D))(own:Nat)(cap:List Nat)(g:MG)(t:M Bool)(e:M D):M D:=λρ O=>(m ρ O).bind λb f=>if b.length<=1000000 then(cj g t e b (eU own cap ρ) f []).bind λc d=>.ok (.lst c) d else .no
noncomputable def bN:M Bool:=λ_ O=>.ok true O
def cMd(own:Nat)(cap:List Nat)(md:List Md):List Md:=List.replicate own .v++cap.map λj=>match md[j]? with
 |some .v=>.v
 | _=>.s
def FP{K:Frag}       (s:SlO K md P ρ σ H F Q)(G:∀j∈cap,j<md.length):SlO K (cMd own.length cap md) (Pt.all H) (eU own.length cap ρ) (compSt own cap σ) H F Q:=by
 refine⟨by simp[compSt,cMd],by simp[eU,cMd],λa h=>h,λi m d c b=>?_,λi j a x L h1=>?_,λ_ z=>nomatch z⟩
 ·unfold eU at b;unfold cMd at c;unfold compSt
  by_cases f:i<own.length
  ·rw[zD (by simpa using f),List.getElem?_replicate_of_lt f] at b;cases b
  ·have hi':own.length<=i:=Nat.le_of_not_lt f;rw[zK (by simpa using hi'),List.length_replicate,zE] at b c;rw[zK (by simpa using hi'),zd,zE]
   cases q:cap[i - own.length]? with
   |none=>rw[q] at b;cases b
   |some j =>
    rw[q] at c b;simp only[Option.map_some,Option.some.injEq] at c b ⊢
    cases q2:ρ[j]? with
    |none=>rw[q2] at b;cases b
    |some o =>
     rw[q2] at b;have e2':o=some d:=b;subst e2';obtain⟨I,v,h1,h2,h3⟩:=s.get q2;rw[h1] at c;refine⟨v,by rw[h2];rfl,?_⟩
     cases I with
     |v=>dsimp only at c;subst c;exact h3
     |s =>
      dsimp only at c;subst c
      rcases h3 with h3 | ⟨a,y,x,c,b,u,E,J,C⟩
      ·exact .inl h3
      ·exact .inr ⟨a,y,x,c,b,u,E,(show H a≠none by rw[u];exact λz=>nomatch z),C⟩
     |o =>
      dsimp only at c;subst c
      rcases h3 with⟨_,h3⟩ | ⟨a,y,x,c,b,u,O,E,J,C⟩
      ·exact .inl h3
      ·exact .inr ⟨a,y,x,c,b,u,E,(show H a≠none by rw[u];exact λz=>nomatch z),C⟩
 ·exfalso
  unfold cMd at h1
  by_cases f:i<own.length
  ·rw[zD (by simpa using f),List.getElem?_replicate_of_lt f] at h1;cases h1
  ·have hi':own.length<=i:=Nat.le_of_not_lt f;rw[zK (by simpa using hi'),List.length_replicate,zE] at h1
   cases q:cap[i - own.length]? with
   |none=>rw[q] at h1;cases h1
   |some j =>
    rw[q] at h1;simp only[Option.map_some,Option.some.injEq] at h1
    split at h1<;>cases h1
def xM(K:Frag)(mg:Str->Option Value)(md:List Md)(R:RR)(m:M D):TE:=λσ H Q=>∃P,tM K mg md P R m σ H Q
def xMT(K:Frag)(mg:Str->Option Value)(md:List Md)(m:M Bool):TT:=λσ H Q=>∃P,tMT K mg md P m σ H Q
def xMG(K:Frag)(mg:Str->Option Value)(md:List Md)(g:MG):TG:=λv σ H Q=>∃P,tMG K mg md P g v σ H Q
def xm   (h:∀P,PE X e (tM X.K X.mg md P R m)):PE X e (xM X.K X.mg md R m):=λpins s σ H Q I ⟨P,q⟩=>h P _ s σ H Q I q
def xmg   (h:∀P,VG X md P e g):PG X e (xMG X.K X.mg md g):=λpins s σ H v u Q I r ⟨P,q⟩=>h P _ s σ H v u Q I r q
def xmt   (h:∀P,kj X e (tMT X.K X.mg md P m)):kj X e (xMT X.K X.mg md m):=λpins s σ H Q I ⟨P,q⟩=>h P _ s σ H Q I q
def VIf(X:Cx)(md:List Md)(P:Pt)(e:List Expr)(m:M Bool):Prop:=kj X e (tMT X.K X.mg md P m)
def VD:VIf X md P [] bN:=λpins s σ H Q I q=>by
 obtain⟨ρ,O,F,b,d,c,r,s,e,k⟩:=q;cases e;exact Tq _ _ σ H Q I (k H F b Gr.refl r)
def VF   (h:TsE X md P c m):VIf X md P [c] m:=Tr h
def xj{K:Frag}        (hcap:∀j∈cap,j<md.length)    (q:tM K mg md P (rO K) (b7 m own.length cap g t e) σ H Q):
  sW (xf K mg md P m) own cap (xMG K mg (cMd own.length cap md) g) (xMT K mg (cMd own.length cap md) t) (xM K mg (cMd own.length cap md) (rV K) e) σ H Q:=by
 obtain⟨ρ,O,F,as,d,OZ,r,s,R,k⟩:=q;obtain⟨E,O1,e1,R⟩:=Res.bind_ok R;split at R
 ·rename_i hz;obtain⟨yf,O2,e2,R⟩:=Res.bind_ok R;cases R;refine⟨ρ,_,F,as,_,_,r,s,e1,λJ H1 F1 W g1 r1 hJ=>?_⟩;have sb:=FP (own:=own) (s.step g1) hcap
  refine⟨λi n Z σ' Y=>n=E.length - i/\i<=E.length/\∃u G C b f,Gr H1 F1 W Y C b/\RlO K mg G Y C b/\SlO K _ _ u σ' Y C b/\Rps K C b Z f/\f.length<=i /\
   cj g t e (E.drop i) u G f=.ok yf OZ,⟨E.length,by simp,Nat.zero_le _,eU _ cap ρ,O1,F1,W,[],Gr.refl,r1,sb,Rps.nil,zc _,by exact e2⟩,?_⟩
  rintro i n Z σ' Y ⟨rfl,hi,u,G,C,b,f,g',r',s',hy,hl,ec⟩
  by_cases T:i<E.length
  ·obtain⟨go,yl⟩:=hJ.turn i _ Y C b g' ⟨G,r'⟩ (zw T)
   refine .inr ⟨go,?_,λZ σ2 H2=>∃ρ2 O3 F2 U I,Gr H1 F1 W H2 F2 U/\RlO K mg O3 H2 F2 _/\SlO K _ _ ρ2 σ2 H2 F2 U/\Rps K F2 U Z I/\I.length<=i+1 /\
    cj g t e _ ρ2 O3 _=.ok yf OZ,λys2 σ2 H2 h2=>⟨E.length - (i+1),by omega,rfl,T,h2⟩,λx H3 y=>?_⟩
   ·rw[hy.length]
    have:=eQ hz
    omega
   obtain⟨F3,g3,r3,hx⟩:=yl x H3 y;have r3':=r3 G r';have g13:=g'.trans g3;rw[List.drop_eq_getElem_cons T] at ec;unfold cj at ec
   cases eg:g _ u with
   |none=>rw[eg] at ec;cases ec
   |some ρ1 =>
    rw[eg] at ec
    dsimp  at ec
    refine⟨_,u,G,F3,b,E[i],ρ1,r3',s'.step g3,hx,eg,λσ4 s4=>?_⟩
    cases et:t ρ1 G with
    | ex
    |no=>rw[et] at ec;cases ec
    |ok c O4 =>
     rw[et] at ec;refine⟨_,ρ1,G,F3,b,c,O4,r3',s4,et,λH5 F5 as5 L r5=>?_⟩
     cases c with
     |false =>
      exact⟨ρ1,O4,F5,as5,f,g13.trans L,r5,s4.step L,(hy.gr g3).gr L,by omega,ec⟩
     |true =>
      dsimp  at ec
      cases em:e _ O4 with
      | ex
      |no=>rw[em] at ec;cases ec
      |ok yd O6 =>
       rw[em] at ec;refine⟨_,ρ1,O4,F5,as5,yd,O6,r5,s4.step L,em,λvy H7 F7 as7 g7 r7 hvy=>?_⟩;exact⟨ρ1,O6,F7,as7,f++[yd],(g13.trans L).trans g7,r7,(s4.step L).step g7,(((hy.gr g3).gr L).gr g7).snoc hvy,by rw[zf];show f.length+1<=i+1;omega,ec⟩
  ·have hi':i=E.length:=by omega
   subst hi';rw[List.drop_length] at ec;cases ec;refine .inl ⟨hJ.stop Y C b g' ⟨_,r'⟩,?_,λp X=>?_⟩
   ·rw[hy.length];exact zG hl (eQ hz)
   ·have hF:C p=none:=by
     cases q:C p with
     |none=>rfl
     |some o=>rw[r'.fh p o q] at X;cases X
    exact k _ _ C b ((g1.trans g').trans (Gr.lay X)) (r'.lay X) (.inr ⟨p,Z,yf,rfl,rfl,bz,hF,λz=>r'.all z X,(g1.trans g').dm p X,hy⟩)
 ·cases R
def gn{f:Pos}(c:Scope)(b own:List Str)(cap:List Nat)(I:X.calm=true)(E:VIc X md P Q J mi)
  (F:∀C s H ex P,VG (bJ X scope C (bH b own cap) s H ex) (cMd own.length cap md) P Q g) (y:∀C s H ex P,VIf (bJ X scope C (bH b own cap) s H ex) (cMd own.length cap md) P L t)
  (G:∀C s H ex P,VE (bJ X scope C (bH b own cap) s H ex) (cMd own.length cap md) P O e)
  (d:∀j∈cap,j<md.length:=by decide) (m:X.env.scope=c:=by rfl) (u:X.N=b:=by rfl) (ok:kh c b scope own cap=true:=by decide +kernel) (hs:∀x,foldedSetIterable J X.env x=pure x:=by intro _;rfl):
  OE X md P (.ListComp O [⟨Q,J,L,0⟩] scope f) (b7 mi own.length cap g t e):=
 (Ew _ b _ _ I E (λC s H ex=>xmg (F C s H ex)) (λC s H ex=>xmt (y C s H ex)) (λC s H ex=>xm (G C s H ex)) m u ok hs).imp λ_ _ _ q=>xj d q
def VH{R:RR}{y:Pos}   {pos' c:Pos}(f:Scope)(m own:List Str)(cap:List Nat)(hN:X.N.Nodup)(hx:X.N[i]?=some x)(hl:Loc X.env.scope x)(hc:X.calm=true)(hi:VIc X md P tg iter mi)
  (hg:∀C s H ex P,VG (bJ X scope C (bH m own cap) s H ex) (cMd own.length cap md) P tg g) (ht:∀C s H ex P,VIf (bJ X scope C (bH m own cap) s H ex) (cMd own.length cap md) P ifs t)
  (he:∀C s H ex P,VE (bJ X scope C (bH m own cap) s H ex) (cMd own.length cap md) P elt e)
  (hm:md[i]?=some .v:=by rfl) (G:∀j∈cap,j<md.length:=by decide) (T:swapsWith (.ListComp elt [⟨tg,iter,ifs,0⟩] scope y) (some (.Name x pos')) c.line X.env=pure true:=by rfl)
  (hf:X.fn x=true\/X.env.scope.names.lookup x=some .local:=by first | exact .inl rfl | exact .inr rfl | assumption)
  (U:X.env.scope=f:=by rfl) (W:X.N=m:=by rfl) (ok:kh f m scope own cap=true:=by decide +kernel) (hs:∀x,foldedSetIterable iter X.env x=pure x:=by intro _;rfl):
  VS X md P R (.Assign [.Name x pos'] (.ListComp elt [⟨tg,iter,ifs,0⟩] scope y) c) (aB i (b7 mi own.length cap g t e)):=
 (Ex (i:=i) f m own cap hN hx hl hc hi (λC s H ex=>xmg (hg C s H ex)) (λC s H ex=>xmt (ht C s H ex)) (λC s H ex=>xm (he C s H ex)) T hf U W ok hs).imp λD σ H q =>
  Fw hm (λσ H Q z=>xj G (by
   obtain⟨ρ,O,F,as,d,O',r,s,e,k⟩:=z;refine⟨ρ,_,F,as,_,_,r,s,e,λv H' I E g Z J=>?_⟩
   rcases J with⟨_,J⟩ | ⟨a,Y,ds,rfl,rfl,e3,L,e5,e6,e7⟩
   ·exact k v H' I E g Z J
   ·have ff:Same I (upd I a (.lst Y)):=λb u q=>by rw[aH (bV q L)];exact q
    exact k _ H' (upd I a (.lst Y)) E (g.frz e6 L) (Z.frz e3 L e5 rfl) (Rp.mkL (.inl (.inl bz)) (Rps.mono ff (λ_ _ z=>z) _ e7)))) q
def FQ{R:RR}{f:Pos}   {pos' b:Pos}(d:Scope)(c own:List Str)(cap:List Nat)(hN:X.N.Nodup)(hx:X.N[i]?=some x)(I:Loc X.env.scope x)(U:X.calm=true)(J:VIc X md P tg W mi)
  (L:∀C s H ex P,VG (bJ X scope C (bH c own cap) s H ex) (cMd own.length cap md) P tg g) (F:∀C s H ex P,VIf (bJ X scope C (bH c own cap) s H ex) (cMd own.length cap md) P Y t)
  (T:∀C s H ex P,VE (bJ X scope C (bH c own cap) s H ex) (cMd own.length cap md) P Z e)
  (G:md[i]?=some .o:=by rfl) (m:∀j∈cap,j<md.length:=by decide) (u:swapsWith (.ListComp Z [⟨tg,W,Y,0⟩] scope f) (some (.Name x pos')) b.line X.env=pure true:=by rfl)
  (O:X.fn x=true\/X.env.scope.names.lookup x=some .local:=by first | exact .inl rfl | exact .inr rfl | assumption)
  (y:X.env.scope=d:=by rfl) (E:X.N=c:=by rfl) (ok:kh d c scope own cap=true:=by decide +kernel) (hs:∀x,foldedSetIterable W X.env x=pure x:=by intro _;rfl):
  VS X md P R (.Assign [.Name x pos'] (.ListComp Z [⟨tg,W,Y,0⟩] scope f) b) (aB i (b7 mi own.length cap g t e)):=
 (Ex _ c _ _ hN hx I U J (λC s H ex=>xmg (L C s H ex)) (λC s H ex=>xmt (F C s H ex)) (λC s H ex=>xm (T C s H ex)) u O y E ok hs).imp λD σ H q =>
  Fx G (λσ H Q z=>xj m z) q
inductive vSp (K:Frag) (mg:Str->Option Value) (pm:List Md) (R:RR) (c:List D->au->Res D) (vs:List V) (H:Hp) (Q:VK) (x3_:XK):Prop
 |mk:∀ds O F as d O',RlO K mg O H F as->bO K H F as pm vs ds->c ds O=.ok d O'->(∀v H' F' as',Gr H F as H' F' as'->RlO K mg O' H' F' as'->R (λa=>H a=none) H' F' as' v d->Q v H')->vSp K mg pm R c vs H Q x3_
noncomputable def aL(n:Nat)(b:MS):List D->au->Res D:=λc O=>match b (c.map some++List.replicate (n - c.length) none) O with
 | .rt d O'=>.ok d O'
 | .nx _ O'=>.ok .non O'
 | .ex x O'=>.ex x O'
 | _=>.no
theorem bO.len{K:Frag}  :∀{ms:List Md}{vs:List V}{ds:List D},bO K H F as ms vs ds->vs.length=ms.length/\ds.length=ms.length
 | [],[],[],_=>⟨rfl,rfl⟩
 |m::ms,v::vs,d::ds,h=>by
  have:=bO.len h.2
  simp[this.1,this.2]
 | [],[],_::_,h=>h.elim
 | [],_::_,[],h=>h.elim
 | [],_::_,_::_,h=>h.elim
 | _::_,[],[],h=>h.elim
 | _::_,[],_::_,h=>h.elim
 | _::_,_::_,[],h=>h.elim
theorem bO.get{K:Frag}{H F:Hp}{b:List Addr}:∀{ms:List Md}{vs:List V}{ds:List D}{i:Nat}{m:Md}{d:D},bO K H F b ms vs ds->ms[i]?=some m->ds[i]?=some d->∃v,vs[i]?=some v/\rA K m (λ_=>True) H F b v d
 |m::ms,v::vs,d::ds,0,m',d',h,e1,e2=>by
  simp at e1 e2
  subst e1 e2;exact⟨v,rfl,h.1⟩
 |m::ms,v::vs,d::ds,i+1,m',d',h,e1,e2=>by
  obtain⟨c,h1,h2⟩:=bO.get (i:=i) (m:=m') (d:=d') h.2 (by simpa using e1) (by simpa using e2);exact⟨c,by simpa using h1,h2⟩
 | [],[],[],_,_,_,_,e1,_=>by simp at e1
 | [],[],_::_,_,_,_,h,_,_=>h.elim
 | [],_::_,[],_,_,_,h,_,_=>h.elim
 | [],_::_,_::_,_,_,_,h,_,_=>h.elim
 | _::_,[],[],_,_,_,h,_,_=>h.elim
 | _::_,[],_::_,_,_,_,h,_,_=>h.elim
 | _::_,_::_,[],_,_,_,h,_,_=>h.elim
def xn{K:Frag}       (h:bO K H F Q pm vs ds)(L:(pm++P).length=N.length)(x:∀m∈pm,m≠.o):
  SlO K (pm++P) (Pt.all H) (ds.map some++List.replicate (N.length - ds.length) none) (start N vs) H F Q:=by
 obtain :=h.len;rw[zf] at L
 have no:∀i a,(ds.map some++List.replicate (N.length - ds.length) none)[i]?=some (some a)->i<ds.length:=λi a e=>by
  by_cases f:i<ds.length
  ·exact f
  ·rw[zK (by simpa using f),List.getElem?_replicate] at e
   split at e<;>cases e
 refine⟨by unfold start;simp;omega,by simp;omega,λa z=>z,λi m d c b=>?_,λi j a y fs c b O=>?_,λ_ z=>nomatch z⟩
 ·have f:=no i d b;rw[zD (by simpa ),zE] at b;rw[zD (by omega)] at c
  cases q:ds[i]? with
  |none=>rw[q] at b;cases b
  |some  =>
   rw[q] at b;cases b;obtain⟨v,h3,h4⟩:=h.get c q;refine⟨v,?_,?_⟩
   ·unfold start;rw[zD (by simp;omega),zE,h3];rfl
   ·cases m with
    |v=>exact h4
    |s =>
     rcases h4 with h4 | ⟨a,J,y,I,G,u,E,C⟩
     ·exact .inl h4
     ·exact .inr ⟨a,J,y,I,G,u,E,(show H a≠none by rw[u];exact λz=>nomatch z),C⟩
    |o=>exact absurd rfl (x .o (zL c))
 ·have f:=no i _ O;rw[zD (by omega)] at c;exact absurd rfl (x .o (zL c))
def VJ{Y:Program}{w:World}{K:Frag}{base:Heap}  {st:Stmt}  {k:Nat}(Df:Def K mg x st)(S:gj N ps (aZ st))
  (hb:∀(kV U pm:Value) (an:Option Addr) (j ct:Value) (us:List Value),us.length=ps.length->bindArgs (PySem.W.fnOf x x (dI st) (cL st) (aZ st) .none kV U pm an j ct) ⟨us,[]⟩=pure (ps.zip us))
  (pm X:List Md)  {b:MS} (hR:eO R) (T:∀N H F y,R N H F y .non .non) (L:pm.length=ps.length:=by rfl) (hl:(pm++X).length=N.length:=by rfl) (hp:∀m∈pm,m≠.o:=by decide)
  (body:∀(f:Addr) (j:Value) (A:Around) (outer:List Env) (s:Shared) (H:Hp) (E:XK),aV k (A.deeper (envOfC x (aZ st) s.heap.objs.size f j))->∀P,VSs ((gk CX0 Y w K mg base N x (aZ st) f j A outer s H E).nox) (pm++X) P R (cL st) b):
  Can Y w K mg base x ps (k+1) (vSp K mg pm R (aL N.length b)):=by
 refine Df.can (k:=k) S hb (λZ H Q E h=>?_) (λf j A outer s H Z Q E hr h=>?_)
 ·obtain⟨G,O,F,y,d,O',r,a,_⟩:=h;rw[a.len.1,L]
 ·obtain⟨G,O,F,y,d,O',r,a,e,q⟩:=h;refine⟨_,body f j A outer s H E hr (Pt.all H),?_⟩;refine⟨_,O,F,y,r,xn a hl hp,?_⟩;unfold aL at e
  cases eb:b (G.map some++List.replicate (N.length - G.length) none) O with
  |rt d' O2 =>
   rw[eb] at e;cases e
   exact λv I J u g C hv=>q v I J u g.gr C (hR _ _ _ _ _ _ _ (λc hc=>Classical.not_not.mp hc) hv)
  |nx ρ O2 =>
   rw[eb] at e;cases e
   exact λσ' I J u g C _=>q _ I J u g.gr C (T _ _ _ _)
  |bk _ _=>rw[eb] at e;cases e
  |ct _ _=>rw[eb] at e;cases e
  |ex _ _=>rw[eb] at e;cases e
  |no=>rw[eb] at e;cases e
noncomputable def aC(c:List D->au->Res D)(ma:M (List D)):M D:=λρ O=>(ma ρ O).bind λb d=>c b d
def FT{K:Frag}  (C:eO R)     (q:tM K mg md P R (aC c ma) σ H Q):pN (vSp K mg pm R c) [] E (tMA K mg md P pm ma) σ H Q:=by
 obtain⟨ρ,O,F,L,d,U,r,s,e,k⟩:=q;obtain⟨J,T,I,e⟩:=Res.bind_ok e;refine⟨ρ,_,F,L,_,_,r,s,I,λvs H1 X b f j x=>?_⟩;rw[zJ];exact⟨J,T,X,b,d,U,j,x,e,λv W Y Z G m u=>k v W Y _ (f.trans G) m (C _ _ _ _ _ _ _ (λa y=>f.dm a y) u)⟩
def FW{p b:Pos}(E:eO R)(C:Can X.prog X.w X.K X.mg X.base x ps k (vSp X.K X.mg pm R c))(j:aV k X.A)(y:AE X md P pm (e::es) ma)(m:Gl X x:=by rfl)(f:(x == ("__debug__":Str))=false:=by decide)
  (u:starEach (e::es) X.env=(false,eval e X.env)::starEach es X.env:=by exact bZ rfl) (d:(backTo b (starEach es X.env)).any (·.1)=false:=by exact cP rfl):PE X (.Call (.Name x p) (e::es) [] b) (tM X.K X.mg md P R (aC c ma)):=
 (Tw C j y m f u d).imp λ_ _ _ q=>FT E q
def VL{md:List Md}{P:Pt}{p b:Pos}(u:eO R)(C:Can X.prog X.w X.K X.mg X.base x ps k (vSp X.K X.mg [] R c))(j:aV k X.A)(m:Gl X x:=by rfl)(f:(x == ("__debug__":Str))=false:=by decide):PE X (.Call (.Name x p) [] [] b) (tM X.K X.mg md P R (aC c ao)):=
 (Tz C j m f).imp λσ H Q q=>by
  have:=FT (pm:=[]) (E:=E0) u q
  obtain⟨ρ,O,F,G,d,I,r,s,y,k⟩:=this;cases y;exact k [] H F G Gr.refl r trivial
def bT{K:Frag}{Q:VK}  (r:RlO K mg O H F m)(k:∀f b c,Gr H F m b c m->RlO K mg O b c m->Ow K (λa=>H a=none) b c m f d->Q f b)(j:iC d=true)(hv:Rp K F m v d):Q v H:=k v H F Gr.refl r (.inl ⟨j,hv⟩)
def RlO.frF{K:Frag}(r:RlO K mg O H F as)(b:H p=none):F p=none:=by
 cases q:F p with
 |none=>rfl
 |some o=>rw[r.fh p o q] at b;cases b
def nF{K:Frag}{Q:VK}(r:RlO K mg O H F j)(k:∀f c d,Gr H F j c d j->RlO K mg O c d j->Ow K (λa=>H a=none) c d j f (.lst ds)->Q f c)(b:H p=none)(hs:Rps K F j xs ds):Q (.ref p) (upd H p (.lst xs)):=
 k _ _ F (Gr.lay b) (r.lay b) (.inr ⟨p,xs,ds,rfl,rfl,bz,r.frF b,λz=>r.all z b,b,hs⟩)
def FZ{K:Frag}{Q:VK}(r:RlO K mg O H F x)(k:∀m d j,Gr H F x d j x->RlO K mg O d j x->Ow K (λa=>H a=none) d j x m (.tup ds)->Q m d)(c:H p=none)(hs:Rps K F x xs ds):Q (.ref p) (upd H p (.tup xs)):=by
 have f:=r.frF c
 have ff:Same F (upd F p (.tup xs)):=λb u q=>by rw[aH (bV q f)];exact q
 exact k _ _ _ ((Gr.lay c).frz c f) ((r.lay c).frz bz f (λz=>r.all z c) rfl) (.inl ⟨rfl,Rp.mkT (.inl bz) (Rps.mono ff (λ_ _ z=>z) _ hs)⟩)
section
variable {X:Cx}
def VM(K:Frag):R2:=λx y H Q=>∃l b d c,x=.ref l/\y=.ref b/\RdK K H l d/\RdK K H b c/\d.length+c.length<=sizeLine/\∀p,H p=none->Q (.ref p) (upd H p (.lst (d++c)))
def VN:OpR X (binaryOp .Add) (VM X.K):=by
 intro pins s σ H x y v u Q I m j h;obtain⟨l,b,R,L,rfl,rfl,C,E,U,q⟩:=h;cases m;cases j;obtain⟨z,d,n,r,e⟩:=C.ok I;obtain⟨O,c,T,f,G⟩:=E.ok I;have W:=r.length;have J:=f.length;refine PySem.P.add_list e G ?_
 have F:d.toArray++c.toArray=(d++c).toArray:=by simp
 rw[F];exact⟨.ref _,_,I.lnew (r.append f) (by rw[zf];omega),rfl,q _ I.fresh⟩
def VP(K:Frag):R2:=λx y H Q=>∃l k b,x=.ref l/\y=.int k/\RdK K H l b/\-(2 ^ 63)<=k/\k<2 ^ 63/\b.length * k.toNat<=sizeLine /\
 ∀p,H p=none->Q (.ref p) (upd H p (.lst (List.replicate k.toNat b).flatten))
def VR:OpR X (binaryOp .Mult) (VP X.K):=by
 intro pins s σ H x y v u Q I O L h;obtain⟨l,k,T,rfl,rfl,R,h1,h2,C,q⟩:=h;cases O;obtain⟨t,rfl⟩:=L;obtain⟨z,b,n,r,e⟩:=R.ok I;have P:=r.length
 have hlen:b.toArray.size * k.toNat<=sizeLine:=by rw[zF,<-P];exact C
 have j:¬b.toArray.size * k.toNat>(2 ^ 63 - 1) / 8:=by
  have:sizeLine<=(2 ^ 63 - 1) / 8:=by decide
  omega
 have f:¬(!Builtin.List.listFitsIndex k)=true:=by
  rw[fitsIndex_both h1 h2];exact zv
 have c:¬Builtin.List.listTooLong (b.toArray.size * k.toNat)=true:=by
  rw[Ei hlen];exact zv
 have d:List.foldl (λG E=>G++E) #[] (List.replicate (if b.toArray.isEmpty=true then 0 else k.toNat) b.toArray)=(List.replicate k.toNat b).flatten.toArray:=by
  have f0 :=λm=>by
   have:=foldl_rep b m []
   rw[zO] at this;exact this
  rw[f0]
  cases b with
  |nil=>simp
  |cons =>rw[if_neg (by simp)]
 refine wpAny_binaryOp_repeat_ref (by decide) ⟨_,e,rfl⟩ (λJ=>typeIs_int J k t) noFill_list_mul F.fills_int_mul F.slot_int_rmul repeat_list F.slot_int_index.lookup
  (call_meets F.slot_int_rmul (typeIs_int s k t) F.entry_int_rmul (F.args_int_rmul_2 _ _) (int___rmul___int_list k t l _ n)
   ⟨e,rfl,⟨_,e,rfl⟩,call_meets F.slot_list_mul ⟨_,e,rfl⟩ F.entry_list_mul (F.args_list_mul_2 _ _) (AutoListH.list___mul___list_int_3 l _ n k t f j c) ⟨e,?_⟩⟩)
 rw[d];exact⟨.ref _,_,I.lnew (r.rep _) (by rw[len_rep,Nat.mul_comm];exact C),rfl,q _ I.fresh⟩
def aJ:D->D->Option D
 | .int i,.int j=>some (.int (i+j))
 | .int i,.bl k=>some (.int (i+b2i k))
 | .str a,.str b=>if a.length+b.length<=1000000 then some (.str (a++b)) else none
 | .lst a,.lst b=>if a.length+b.length<=1000000 then some (.lst (a++b)) else none
 | .tup a,.tup b=>if a.length+b.length<=1000000/\a≠[] then some (.tup (a++b)) else none
 | _,_=>none
instance (a:List D):Decidable (a≠[]):=match a with
 | []=>isFalse λh=>h rfl
 | _::_=>isTrue λh=>nomatch h
def V0:OpD X (binaryOp .Add) aJ:=by
 intro pins s σ H x y v u Q I m f h;obtain⟨O,F,W,U,G,d,r,hx,C,e,k⟩:=h
 cases U with
 |int i =>
  cases(hx.rp rfl).unI
  cases G with
  |int j =>
   cases(C.rp rfl).unI;cases e;exact QH _ s σ H _ _ v u Q I m f ⟨i,j,rfl,rfl,bT r k rfl Rp.int⟩
  |bl j =>
   cases(C.rp rfl).unB;cases e;exact QS _ s σ H _ _ v u Q I m f ⟨i,j,rfl,rfl,bT r k rfl Rp.int⟩
  | _=>cases e
 |str a =>
  cases(hx.rp rfl).unS
  cases G with
  |str b =>
   cases(C.rp rfl).unS;simp only[aJ] at e;split at e
   ·rename_i c;cases e;refine Q6 _ s σ H _ _ v u Q I m f ⟨S a,S b,rfl,rfl,by exact eQ c,?_⟩;rw[TQ];exact bT r k rfl Rp.str
   ·cases e
  | _=>cases e
 |lst a =>
  obtain⟨p,E,rfl,h1,h2⟩:=hx.list r.fh
  cases G with
  |lst b =>
   obtain⟨L,J,rfl,h3,h4⟩:=C.list r.fh;simp only[aJ] at e;split at e
   ·rename_i c;cases e;exact VN _ s σ H _ _ v u Q I m f ⟨p,L,E,J,rfl,rfl,h1,h3,by rw[h2.length,h4.length];exact eQ c,λq P=>nF r k P (Rps.append h4 h2)⟩
   ·cases e
  | _=>cases e
 |tup a =>
  obtain⟨p,E,rfl,h1,h2⟩:=(hx.rp rfl).unT
  cases G with
  |tup b =>
   obtain⟨L,J,rfl,h3,h4⟩:=(C.rp rfl).unT;simp only[aJ] at e;split at e
   ·rename_i c;cases e
    have R:E≠[]:=λz=>c.2 (List.eq_nil_of_length_eq_zero (by rw[<-h2.length,z];rfl))
    refine R0 _ s σ H _ _ v u Q I m f ⟨p,L,E,J,rfl,rfl,Same.seqT r.fh h1,Same.seqT r.fh h3,R,by rw[h2.length,h4.length];exact eQ c.1,λz=>?_,λ_ q P=>FZ r k P (Rps.append h4 h2)⟩;have T :=List.eq_nil_of_length_eq_zero (by rw[<-h4.length,z];rfl);subst T;rw[zJ] at k;exact bT r k rfl (hx.rp rfl)
   ·cases e
  | _=>cases e
 | _=>cases e
def gI(C:Int->Int->Bool)(f:Int->Int->Int):D->D->Option D
 | .int i,.int j=>if C i j=true then some (.int (f i j)) else none
 | _,_=>none
def xq     (h:OpR X f (rI Cp λi j=>.int (g i j)))(q:∀i j,C i j=true->Cp i j):OpD X f (gI C g):=by
 intro pins s σ H x y v u Q I c b G;obtain⟨O,F,P,L,J,d,r,hx,m,e,k⟩:=G
 cases L with
 |int i =>
  cases(hx.rp rfl).unI
  cases J with
  |int j =>
   cases(m.rp rfl).unI;simp only[gI] at e;split at e
   ·rename_i E;cases e;exact h _ s σ H _ _ v u Q I c b ⟨i,j,rfl,rfl,q i j E,bT r k rfl Rp.int⟩
   ·cases e
  | _=>cases e
 | _=>cases e
def dO:D->D->Option D:=gI (λ_ _=>true) λi j=>i - j
def V1:OpD X (binaryOp .Sub) dO:=by
 intro pins s σ H x y v u Q I c b m;obtain⟨O,F,E,C,q,d,r,hx,f,e,k⟩:=m
 cases C with
 |int i =>
  cases(hx.rp rfl).unI
  cases q with
  |int j =>
   cases(f.rp rfl).unI;cases e;exact QJ _ s σ H _ _ v u Q I c b ⟨i,j,rfl,rfl,bT r k rfl Rp.int⟩
  | _=>cases e
 | _=>cases e
def nG(i:Int):Bool:=decide (-(2 ^ 64)<i)&&decide (i<2 ^ 64)
def xu  (h:nG i=true):-(2 ^ 64)<i/\i<2 ^ 64:=by
 unfold nG at h;rw[zx,decide_eq_true_eq,decide_eq_true_eq] at h;exact h
def gP:D->D->Option D
 | .int i,.int j=>if(nG i || nG j)=true then some (.int (i * j)) else none
 | .str l,.int n=>if -1000000<n/\n<1000000/\l.length * n.toNat<=16777216 then some (.str (List.replicate n.toNat l).flatten) else none
 | .lst l,.int n=>if -1000000<n/\n<1000000/\l.length * n.toNat<=1000000 then some (.lst (List.replicate n.toNat l).flatten) else none
 | _,_=>none
def V2:OpD X (binaryOp .Mult) gP:=by
 intro pins s σ H x y v u Q I f c h;obtain⟨O,F,L,J,C,d,r,hx,m,e,k⟩:=h
 cases J with
 |int i =>
  cases(hx.rp rfl).unI
  cases C with
  |int j =>
   cases(m.rp rfl).unI;simp only[gP] at e;split at e
   ·rename_i b;cases e;refine QK _ s σ H _ _ v u Q I f c ⟨i,j,rfl,rfl,?_,bT r k rfl Rp.int⟩;rw[Bool.or_eq_true] at b
    rcases b with z | z
    ·exact .inl (xu z)
    ·exact .inr (xu z)
   ·cases e
  | _=>cases e
 |str l =>
  cases(hx.rp rfl).unS
  cases C with
  |int n =>
   cases(m.rp rfl).unI;simp only[gP] at e;split at e
   ·rename_i b;cases e;exact Uo _ s σ H _ _ v u Q I f c ⟨l,n,rfl,rfl,b.1,b.2.1,b.2.2,bT r k rfl Rp.str⟩
   ·cases e
  | _=>cases e
 |lst l =>
  obtain⟨p,E,rfl,h1,h2⟩:=hx.list r.fh
  cases C with
  |int n =>
   cases(m.rp rfl).unI;simp only[gP] at e;split at e
   ·rename_i b;cases e;exact VR _ s σ H _ _ v u Q I f c ⟨p,n,E,rfl,rfl,h1,by omega,by omega,by rw[h2.length];exact eQ b.2.2,λq G=>nF r k G (h2.rep _)⟩
   ·cases e
  | _=>cases e
 | _=>cases e
def bC:D->D->Option D:=gI (λ_ j=>decide (0<j)) λi j=>i % j
def V3:OpD X (binaryOp .Mod) bC:=xq QM λ_ _ h=>jj h
def kI:D->D->Option D:=gI (λ_ j=>decide (0<j)&&decide (j<1073741824)) λi j=>i / j
def V4:OpD X (binaryOp .FloorDiv) kI:=xq QL λi j h=>by
 rw[zx,decide_eq_true_eq,decide_eq_true_eq] at h;exact h
def iH:D->D->Option D:=gI (λi j=>decide (0<=j)&&(decide (j<=1000000)&&nG i)) λi j=>i ^ j.toNat
def V5:OpD X (binaryOp .Pow) iH:=xq QQ λi j h=>by
 rw[zx,zx,decide_eq_true_eq,decide_eq_true_eq] at h
 have:=xu h.2.2
 exact⟨h.1,h.2.1,by omega⟩
def mUn(g:D->Option D)(m:M D):M D:=λρ O=>(m ρ O).bind λd b=>match g (aW b d) with
 |some y=>.ok y b
 |none=>.no
def kJ:D->Option D
 | .int i=>some (.int (-i))
 | _=>none
theorem V6      (h:SE X md P a m):OE X md P (.UnaryOp .USub a pos) (mUn kJ m):=(QD QR h).imp λσ H Q q=>by
 obtain⟨ρ,O,F,u,d,I,r,s,e,k⟩:=q;obtain⟨x,y,j,e⟩:=Res.bind_ok e;refine⟨ρ,_,F,u,_,_,r,s,j,λv C E G f b c=>?_⟩
 cases ed:aW y x with
 |int i =>
  rw[ed] at e;cases e
  have:=Sv.lk c b
  rw[ed] at this;exact⟨i,(this.rp rfl).unI,k _ C E _ f b (.inl ⟨rfl,Rp.int⟩)⟩
 | _=>rw[ed] at e;cases e
def gCI(f:Int->Int->Bool):D->D->Option D
 | .int i,.int j=>some (.bl (f i j))
 | _,_=>none
def Ga   (h:OpR X f (rI0 λi j=>.bl (g i j))):OpD X f (gCI g):=by
 intro pins s σ H x y v u Q I c b q;obtain⟨O,F,G,E,C,d,r,hx,m,e,k⟩:=q
 cases E with
 |int i =>
  cases(hx.rp rfl).unI
  cases C with
  |int j =>
   cases(m.rp rfl).unI;cases e;exact h _ s σ H _ _ v u Q I c b ⟨i,j,rfl,rfl,bT r k rfl Rp.bl⟩
  | _=>cases e
 | _=>cases e
def gLt:D->D->Option D:=gCI λi j=>decide (i<j)
def gGt:D->D->Option D:=gCI λi j=>decide (j<i)
def gGe:D->D->Option D:=gCI λi j=>decide (j<=i)
def gLe:D->D->Option D
 | .int i,.int j=>some (.bl (decide (i<=j)))
 | .str a,.str b=>some (.bl (!decide (b<a)))
 | _,_=>none
def tK:OpD X (compareOp .LtE) gLe:=by
 intro pins s σ H x y v u Q I f c C;obtain⟨O,F,G,E,q,d,r,hx,m,e,k⟩:=C
 cases E with
 |int i =>
  cases(hx.rp rfl).unI
  cases q with
  |int j =>
   cases(m.rp rfl).unI;cases e;exact QV _ s σ H _ _ v u Q I f c ⟨i,j,rfl,rfl,bT r k rfl Rp.bl⟩
  | _=>cases e
 |str a =>
  cases(hx.rp rfl).unS
  cases q with
  |str b =>
   cases(m.rp rfl).unS;cases e;refine TV _ s σ H _ _ v u Q I f c ⟨S a,S b,rfl,rfl,?_⟩;exact bT r k rfl Rp.bl
  | _=>cases e
 | _=>cases e
def V7:OpD X (compareOp .Lt) gLt:=Ga QT
def V8:OpD X (compareOp .Gt) gGt:=Ga QW
mutual
def toP:D->PyData
 | .non=>.none
 | .bl b=>.bool b
 | .int i=>.int i
 | .str l=>.str (S l)
 | .lst ds=>.list (gQ ds)
 | .tup ds=>.tuple (gQ ds)
 | .dic _ _=>.none
 | .ob _=>.none
def gQ:List D->List PyData
 | []=>[]
 |d::ds=>toP d::gQ ds
end
mutual
def d9:D->Bool
 | .lst ds=>jH ds
 | .tup ds=>jH ds
 | .dic _ _=>false
 | .ob _=>false
 | _=>true
def jH:List D->Bool
 | []=>true
 |d::ds=>d9 d&&jH ds
end
section
variable {K:Frag}{F:Hp}{as:List Addr}
mutual
theorem Rp.rep:∀(d:D) {v:V},d9 d=true->Rp K F as v d->Rep K F v (toP d)
 | .non,v,_,h=>by rw[toP,Rep];exact h.unN
 | .bl b,v,_,h=>by rw[toP,Rep];exact h.unB
 | .int i,v,_,h=>by rw[toP,Rep];exact h.unI
 | .str x,v,_,h=>by rw[toP,Rep];exact h.unS
 | .lst ds,v,hp,h=>by
  obtain⟨a,c,h1,h2,h3⟩:=h.unL;rw[toP,Rep];rw[d9] at hp;exact⟨a,c,h1,h2.sq,Rps.rep' ds hp h3⟩
 | .tup ds,v,hp,h=>by
  obtain⟨a,c,h1,h2,h3⟩:=h.unT;rw[toP,Rep];rw[d9] at hp;exact⟨a,c,h1,h2,Rps.rep' ds hp h3⟩
 | .dic _ _,v,hp,h=>by rw[d9] at hp;cases hp
 | .ob _,v,hp,h=>by rw[d9] at hp;cases hp
theorem Rps.rep':∀(ds:List D) {xs:List V},jH ds=true->Rps K F as xs ds->bR K F xs (gQ ds)
 | [],xs,_,h=>by rw[h.un0,gQ];exact bR.nil
 |d::ds,xs,hp,h=>by
  obtain⟨x,r,rfl,h2,h3⟩:=h.un;rw[jH,zx] at hp;rw[gQ];exact bR.cons (Rp.rep d hp.1 h2) (Rps.rep' ds hp.2 h3)
end
def Lk.rep{K:Frag}    (h:Lk K H F as v d)(fh:Same F H)(b:d9 d=true):Rep K H v (toP d):=by
 rcases h with h | ⟨a,c,f,rfl,rfl,h1,h2⟩
 ·exact Rep.mono fh _ (Rp.rep d b h)
 ·rw[d9] at b;rw[toP,Rep];exact⟨a,c,rfl,.inl (.inl h1),bR.mono fh _ (Rps.rep' f b h2)⟩
end
def okE(d:D):Bool:=d9 d&&okD (toP d)
def iI(a b:D):Bool:=PyData.eqv (toP a) (toP b)
def gEq:D->D->Option D
 | .int i,.int j=>some (.bl (decide (i=j)))
 | .str a,.str b=>some (.bl (decide (a=b)))
 | .bl a,.bl b=>some (.bl (decide (a=b)))
 |a,b=>if(okE a&&okE b)=true then some (.bl (iI a b)) else none
def gNe:D->D->Option D
 | .int i,.int j=>some (.bl (!decide (i=j)))
 | .str a,.str b=>some (.bl (!decide (a=b)))
 | .bl a,.bl b=>some (.bl (!decide (a=b)))
 |a,b=>if(okE a&&okE b)=true then some (.bl (!iI a b)) else none
def Gb(a b:List Nat):decide (V.str (S a)=V.str (S b))=decide (a=b):=by
 by_cases h:a=b
 ·subst h;simp
 ·rw[zk h,zk];intro z;exact h (pQ (V.str.inj z))
def Gd(a b:Int):decide (V.int a=V.int b)=decide (a=b):=by
 by_cases h:a=b
 ·simp
 ·rw[zk h,zk];intro z;exact h (V.int.inj z)
def Ge(a b:Bool):decide (V.bl a=V.bl b)=decide (a=b):=by
 cases a<;>cases b<;>rfl
def V9  (h:gEq a b=some d):(∃i j,a=.int i/\b=.int j/\d=.bl (decide (i=j)))\/(∃i j,a=.str i/\b=.str j/\d=.bl (decide (i=j)))\/(∃i j,a=.bl i/\b=.bl j/\d=.bl (decide (i=j))) \/
  (okE a=true/\okE b=true/\d=.bl (iI a b)):=by
 unfold gEq at h;split at h
 ·cases h;exact .inl ⟨_,_,rfl,rfl,rfl⟩
 ·cases h;exact .inr (.inl ⟨_,_,rfl,rfl,rfl⟩)
 ·cases h;exact .inr (.inr (.inl ⟨_,_,rfl,rfl,rfl⟩))
 ·split at h
  ·rename_i c;rw[zx] at c;cases h;exact .inr (.inr (.inr ⟨c.1,c.2,rfl⟩))
  ·cases h
def Wa  (h:gNe a b=some d):(∃i j,a=.int i/\b=.int j/\d=.bl (!decide (i=j)))\/(∃i j,a=.str i/\b=.str j/\d=.bl (!decide (i=j)))\/(∃i j,a=.bl i/\b=.bl j/\d=.bl (!decide (i=j))) \/
  (okE a=true/\okE b=true/\d=.bl (!iI a b)):=by
 unfold gNe at h;split at h
 ·cases h;exact .inl ⟨_,_,rfl,rfl,rfl⟩
 ·cases h;exact .inr (.inl ⟨_,_,rfl,rfl,rfl⟩)
 ·cases h;exact .inr (.inr (.inl ⟨_,_,rfl,rfl,rfl⟩))
 ·split at h
  ·rename_i c;rw[zx] at c;cases h;exact .inr (.inr (.inr ⟨c.1,c.2,rfl⟩))
  ·cases h
def Gf  (m:aV k X.A):OpD X (compareOp .Eq) gEq:=by
 intro pins s σ H x y v u Q I c b q;obtain⟨O,F,G,E,C,d,r,hx,f,e,k⟩:=q
 rcases V9 e with⟨i,j,rfl,rfl,rfl⟩ | ⟨i,j,rfl,rfl,rfl⟩ | ⟨i,j,rfl,rfl,rfl⟩ | ⟨h1,h2,rfl⟩
 ·cases(hx.rp rfl).unI;cases(f.rp rfl).unI;refine wu _ s σ H _ _ v u Q I c b ⟨rfl,?_⟩;rw[Gd];exact bT r k rfl Rp.bl
 ·cases(hx.rp rfl).unS;cases(f.rp rfl).unS;refine wu _ s σ H _ _ v u Q I c b ⟨rfl,?_⟩;rw[Gb];exact bT r k rfl Rp.bl
 ·cases(hx.rp rfl).unB;cases(f.rp rfl).unB;refine wu _ s σ H _ _ v u Q I c b ⟨rfl,?_⟩;rw[Ge];exact bT r k rfl Rp.bl
 ·unfold okE at h1 h2;rw[zx] at h1 h2;exact TF m _ s σ H _ _ v u Q I c b ⟨toP E,toP C,hx.rep r.fh h1.1,f.rep r.fh h2.1,h1.2,h2.2,bT r k rfl Rp.bl⟩
def Wb  (m:aV k X.A):OpD X (compareOp .NotEq) gNe:=by
 intro pins s σ H x y v u Q I c b q;obtain⟨O,F,G,E,C,d,r,hx,f,e,k⟩:=q
 rcases Wa e with⟨i,j,rfl,rfl,rfl⟩ | ⟨i,j,rfl,rfl,rfl⟩ | ⟨i,j,rfl,rfl,rfl⟩ | ⟨h1,h2,rfl⟩
 ·cases(hx.rp rfl).unI;cases(f.rp rfl).unI;refine wy _ s σ H _ _ v u Q I c b ⟨rfl,?_⟩;rw[Gd];exact bT r k rfl Rp.bl
 ·cases(hx.rp rfl).unS;cases(f.rp rfl).unS;refine wy _ s σ H _ _ v u Q I c b ⟨rfl,?_⟩;rw[Gb];exact bT r k rfl Rp.bl
 ·cases(hx.rp rfl).unB;cases(f.rp rfl).unB;refine wy _ s σ H _ _ v u Q I c b ⟨rfl,?_⟩;rw[Ge];exact bT r k rfl Rp.bl
 ·unfold okE at h1 h2;rw[zx] at h1 h2;exact Ey m _ s σ H _ _ v u Q I c b ⟨toP E,toP C,hx.rep r.fh h1.1,f.rep r.fh h2.1,h1.2,h2.2,bT r k rfl Rp.bl⟩
def toV:D->V
 | .bl b=>.bl b
 | .int i=>.int i
 | .str l=>.str (S l)
 | _=>.non
def gq:D->Bool
 | .non=>true
 | .bl _=>true
 | .int _=>true
 | .str _=>true
 | _=>false
def eqF(x y:D):Bool:=eqV (toV x) (toV y)
def Rp.flat{K:Frag}     (h:Rp K F as v d)(c:gq d=true):v=toV d/\iB v=true:=by
 cases d with
 |non=>rw[h.unN];exact⟨rfl,rfl⟩
 |bl b=>rw[h.unB];exact⟨rfl,rfl⟩
 |int b=>rw[h.unI];exact⟨rfl,rfl⟩
 |str b=>rw[h.unS];exact⟨rfl,rfl⟩
 | _=>cases c
theorem Rps.flat{K:Frag}{F:Hp}{m:List Addr}:∀{ds:List D}{xs:List V},Rps K F m xs ds->ds.all gq=true->xs=ds.map toV/\xs.all iB=true
 | [],xs,h,_=>by rw[h.un0];exact⟨rfl,rfl⟩
 |d::ds,xs,h,hf=>by
  obtain⟨x,r,rfl,h2,h3⟩:=h.un;rw[List.all_cons,zx] at hf;obtain⟨j,f⟩:=h2.flat hf.1;obtain⟨c,b⟩:=Rps.flat h3 hf.2;exact⟨by rw[zg,<-j,<-c],by rw[List.all_cons,f,b];rfl⟩
def gIn(b:Bool):D->D->Option D
 | .str [c],.str l=>some (.bl (b ^^ decide (c∈l)))
 |x,.lst ds=>if(gq x&&ds.all gq)=true then some (.bl (b ^^ ds.any λy=>eqF y x)) else none
 |x,.tup ds=>if(gq x&&ds.all gq)=true then some (.bl (b ^^ ds.any λy=>eqF y x)) else none
 | _,_=>none
def Wc   (h:gIn j a b=some d):(∃c l,a=.str [c]/\b=.str l/\d=.bl (j ^^ decide (c∈l)))\/(∃ds,(b=.lst ds\/b=.tup ds)/\gq a=true/\ds.all gq=true/\d=.bl (j ^^ ds.any λy=>eqF y a)):=by
 unfold gIn at h;split at h
 ·cases h;exact .inl ⟨_,_,rfl,rfl,rfl⟩
 ·split at h
  ·rename_i f;rw[zx] at f;cases h;exact .inr ⟨_,.inl rfl,f.1,f.2,rfl⟩
  ·cases h
 ·split at h
  ·rename_i f;rw[zx] at f;cases h;exact .inr ⟨_,.inr rfl,f.1,f.2,rfl⟩
  ·cases h
 ·cases h
def We  {ds:List D}:inV (toV x) (ds.map toV)=ds.any λy=>eqF y x:=by
 unfold inV;rw[List.any_map];rfl
def Wf{K:Frag}        (r:RlO K mg O H F d)(c:Lk K H F d v b)(hb:b=.lst ds\/b=.tup ds):∃p xs,v=.ref p/\(SqL K H p xs\/SqT K H p xs)/\Rps K F d xs ds:=by
 rcases hb with rfl | rfl
 ·obtain⟨p,xs,e,h1,h2⟩:=c.list r.fh;exact⟨p,xs,e,.inl h1.sq,h2⟩
 ·obtain⟨p,xs,e,h1,h2⟩:=(c.rp rfl).unT;exact⟨p,xs,e,.inr (Same.seqT r.fh h1),h2⟩
def Wg  (h:gq d=true):iC d=true:=by cases d<;>first | rfl | cases h
def Gg:OpD X (compareOp .In) (gIn false):=by
 intro pins s σ H x y v u Q I f b C;obtain⟨O,F,U,R,P,d,r,hx,j,e,k⟩:=C
 rcases Wc e with⟨c,l,rfl,rfl,rfl⟩ | ⟨T,q,h1,h2,rfl⟩
 ·cases(hx.rp rfl).unS;cases(j.rp rfl).unS;refine TY _ s σ H _ _ v u Q I f b ⟨c,l,rfl,rfl,?_⟩;rw[Bool.false_xor] at k;exact bT r k rfl Rp.bl
 ·obtain⟨p,m,rfl,h3,h4⟩:=Wf r j q;obtain⟨L,J⟩:=(hx.rp (Wg h1)).flat h1;obtain⟨G,E⟩:=h4.flat h2;refine Su _ s σ H _ _ v u Q I f b ⟨p,m,rfl,h3,J,E,?_⟩;rw[L,G,We];rw[Bool.false_xor] at k;exact bT r k rfl Rp.bl
def gIx:D->D->Option D
 | .lst ds,.int i=>atI ds i
 | .tup ds,.int i=>atI ds i
 | .str l,.int i=>if l.length<=1000000 then(atI l i).map λc=>.str [c] else none
 | _,_=>none
def Rps.atI{K:Frag}       (h:Rps K F as xs ds)(e:atI ds i=some d):∃v,L2.atI xs i=some v/\Rp K F as v d:=by
 unfold L2.atI at e ⊢;rw[h.length]
 cases q:ixN _ i with
 |none=>rw[q] at e;cases e
 |some j =>
  rw[q] at e;exact h.get' e
inductive rDv (K:Frag) (mg:Str->Option Value) (g:D->D->Option D) (x:V) (y:V) (H:Hp) (Q:VK):Prop
 | mk:∀O F as dx dy d,RlO K mg O H F as->Lk K H F as x dx->Lk K H F as y dy->g dx dy=some d->(∀v',Rp K F as v' d->Q v' H)->rDv K mg g x y H Q
def Wh:IxR X (rDv X.K X.mg gIx):=by
 intro value slice pins s σ H x y v u Q I m j P b;obtain⟨O,F,T,R,J,d,r,hx,C,e,k⟩:=P
 cases R with
 |lst  =>
  obtain⟨p,f,rfl,h1,h2⟩:=hx.list r.fh
  cases J with
  |int i =>
   cases(C.rp rfl).unI;obtain⟨z,G,E⟩:=h2.atI e;exact R6 _ _ _ s σ H _ _ v u Q I m j ⟨p,f,i,z,rfl,rfl,h1.sq,G,k z E⟩ b
  | _=>cases e
 |tup  =>
  obtain⟨p,f,rfl,h1,h2⟩:=(hx.rp rfl).unT
  cases J with
  |int i =>
   cases(C.rp rfl).unI;obtain⟨z,G,E⟩:=h2.atI e;exact R7 _ _ _ s σ H _ _ v u Q I m j ⟨p,f,i,z,rfl,rfl,Same.seqT r.fh h1,G,k z E⟩ b
  | _=>cases e
 |str l =>
  cases(hx.rp rfl).unS
  cases J with
  |int i =>
   cases(C.rp rfl).unI;simp only[gIx] at e;split at e
   ·rename_i L
    cases q:L2.atI l i with
    |none=>rw[q] at e;cases e
    |some c =>
     rw[q] at e;cases e;exact R8 _ _ _ s σ H _ _ v u Q I m j ⟨S l,i,c,rfl,rfl,by exact eQ L,by exact q,k _ Rp.str⟩ b
   ·cases e
  | _=>cases e
 | _=>cases e
def Wi      (T:SE X md P a ma)(hb:SE X md P b mb)(hs:sE b:=by intro _ _;rfl):VE X md P (.Subscript a b pos) (ak gIx ma mb):=(R1 Wh T hb hs).imp λσ H Q h=>by
 obtain⟨ρ,O,F,Y,d,O',r,sl,e,k⟩:=h;obtain⟨x,O1,W,e⟩:=Res.bind_ok e;obtain⟨y,O2,U,e⟩:=Res.bind_ok e;split at e
 ·rename_i d' R;cases e;refine⟨ρ,_,F,Y,_,_,r,sl,W,λv H1 F1 j q G J=>?_⟩;refine⟨ρ,_,F1,j,_,_,G,sl.step q,U,λu Z C f m c L=>?_⟩;exact⟨_,C,f,_,_,_,c,Sv.lk (Sv.gr J m) c,Sv.lk L c,R,λE I=>k E Z C _ (q.trans m) c I⟩
 ·cases e
inductive tMO (K:Frag) (mg:Str->Option Value) (md:List Md) (P:Pt) (m:M (Option Int)) (σ:St) (H:Hp) (Q:(Option Int->Hp->Prop)):Prop
 | mk:∀ρ O F as b O',RlO K mg O H F as->SlO K md P ρ σ H F as->m ρ O=.ok b O'->(∀H' F' as',Gr H F as H' F' as'->RlO K mg O' H' F' as'->Q b H')->tMO K mg md P m σ H Q
def VO(X:Cx)(md:List Md)(P:Pt)(e:Option Expr)(m:M (Option Int)):Prop:=PO X e (tMO X.K X.mg md P m)
def PO.imp   (h:PO X e t)(k:∀σ H Q,t' σ H Q->t σ H Q):PO X e t':=λpins s σ H Q I q=>h pins s σ H Q I (k σ H Q q)
def moN:M (Option Int):=λ_ O=>.ok none O
def moS(m:M D):M (Option Int):=λρ O=>(m ρ O).bind λd b=>match d with
 | .int i=>.ok (some i) b
 | _=>.no
def Wj  :VO X md P none moN:=RP.imp λσ H Q q=>by
 obtain⟨ρ,O,F,b,d,c,r,s,e,k⟩:=q;cases e;exact k H F b Gr.refl r
theorem Wk     (h:VE X md P e m):VO X md P (some e) (moS m):=(RQ h).imp λσ H Q q=>by
 obtain⟨ρ,O,F,u,d,I,r,s,e,k⟩:=q;obtain⟨x,G,j,e⟩:=Res.bind_ok e
 cases x with
 |int i =>
  cases e;exact⟨ρ,_,F,u,_,_,r,s,j,λv y C E f b c=>⟨i,Rp.unI c,k y C _ f b⟩⟩
 | _=>cases e
def gSl(d:D)(b c:Option Int):Option D:=match d with
 | .lst ds=>some (.lst (cz ds b c))
 | .tup ds=>some (.tup (cz ds b c))
 | .str l=>if l.length<=16777216 then some (.str (cz l b c)) else none
 | _=>none
inductive Gh (K:Frag) (mg:Str->Option Value) (x:V) (lo:Option Int) (hi:Option Int) (H:Hp) (Q:VK):Prop
 |mk:∀O F as dx d,RlO K mg O H F as->Lk K H F as x dx->gSl dx lo hi=some d->(∀v' H' F',Gr H F as H' F' as->RlO K mg O H' F' as->Ow K (λa=>H a=none) H' F' as v' d->Q v' H')->Gh K mg x lo hi H Q
def Rps.cut{K:Frag}     (h:Rps K F d xs ds)(b c:Option Int):Rps K F d (lQ xs b c) (cz ds b c):=by
 unfold lQ cz;rw[h.length];exact(h.drop _).take _
def Wl:SlR X (Gh X.K X.mg):=by
 intro pins s σ H x v vl j b c sl Q I m hs y u h;obtain⟨O,F,J,G,d,r,hx,e,k⟩:=h
 cases G with
 |lst  =>
  obtain⟨p,f,rfl,h1,h2⟩:=hx.list r.fh;cases e;exact Sq _ s σ H _ v vl j b c sl Q I m hs y u ⟨p,f,rfl,h1.sq,λq C=>nF r k C (h2.cut b c)⟩
 |tup ds =>
  obtain⟨p,f,rfl,h1,h2⟩:=(hx.rp rfl).unT;cases e;refine Uc _ rfl _ s σ H _ v vl j b c sl Q I m hs y u ⟨p,f,rfl,Same.seqT r.fh h1,λz=>?_,λ_ q C=>FZ r k C (h2.cut b c)⟩
  have:cz ds b c=ds:=by
   unfold cz;rw[<-h2.length,z.1,z.2,List.drop_zero,Nat.sub_zero,h2.length,List.take_length]
  rw[this] at k;exact bT r k rfl (hx.rp rfl)
 |str l =>
  cases(hx.rp rfl).unS;simp only[gSl] at e;split at e
  ·rename_i E;cases e;exact Ua _ s σ H _ v vl j b c sl Q I m hs y u ⟨l,rfl,zG E (Nat.le_of_eq sizeLine_eq.symm),bT r k rfl Rp.str⟩
  ·cases e
 | _=>cases e
def mSl(m:M D)(c f:M (Option Int)):M D:=λρ O=>(m ρ O).bind λd q=>(c ρ q).bind λl j=>(f ρ j).bind λh b=>match gSl (aW b d) l h with
 |some y=>.ok y b
 |none=>.no
end
section
variable {X:Cx}{md:List Md}{P:Pt}{R:RR}
def Wm  {E:Option Expr}    (he:SE X md P e m)(hl:VO X md P E ml)(hh:VO X md P hi mh):OE X md P (.Subscript e (.Slice E hi none p2) pos) (mSl m ml mh):=(RT Wl he hl hh).imp λσ H Q q=>by
 obtain⟨ρ,O,F,as,d,O',r,s,e,k⟩:=q;obtain⟨x,O1,e1,e⟩:=Res.bind_ok e;obtain⟨l,O2,e2,e⟩:=Res.bind_ok e;obtain⟨h,O3,e3,e⟩:=Res.bind_ok e;split at e
 ·rename_i y hg;cases e;refine⟨ρ,_,F,as,_,_,r,s,e1,λv H1 F1 u J U Z=>?_⟩;refine⟨ρ,_,F1,u,_,_,U,s.step J,e2,λH2 F2 j I T=>?_⟩;have c:=J.trans I;refine⟨ρ,_,F2,j,_,_,T,s.step c,e3,λH3 F3 f G C=>?_⟩;have b:=c.trans G;exact⟨_,F3,f,_,_,C,Sv.lk (Sv.gr (Sv.gr Z I) G) C,hg,λL H' F' g' W Y=>k L H' F' _ (b.trans g') W (iD _ _ _ _ _ _ _ (λa ha=>b.dm a ha) Y)⟩
 ·cases e
def Lks(K:Frag)(H F:Hp)(b:List Addr):List V->List D->Prop
 | [],[]=>True
 |v::vs,d::ds=>Lk K H F b v d/\Lks K H F b vs ds
 | _,_=>False
theorem bO.lks{K:Frag}     (r:RlO K mg O H F as):∀{ms:List Md}{vs:List V}{ds:List D},bO K H F as ms vs ds->Lks K H F as vs (ds.map (aW O))
 | [],[],[],_=>trivial
 |m::ms,v::vs,d::ds,h=>by
  refine⟨?_,bO.lks r h.2⟩
  have h1:Sv K H F as v d:=by
   cases m with
   |v=>exact .inl h.1
   |s=>exact h.1
   |o=>exact h.1
  exact h1.lk r
 | [],[],_::_,h=>h.elim
 | [],_::_,[],h=>h.elim
 | [],_::_,_::_,h=>h.elim
 | _::_,[],[],h=>h.elim
 | _::_,[],_::_,h=>h.elim
 | _::_,_::_,[],h=>h.elim
inductive rC (K:Frag) (mg:Str->Option Value) (g:List D->Option D) (vs:List V) (H:Hp) (Q:VK):Prop
 |mk:∀O F as ds d,RlO K mg O H F as->Lks K H F as vs ds->g ds=some d->(∀v' H' F',Gr H F as H' F' as->RlO K mg O H' F' as->Ow K (λa=>H a=none) H' F' as v' d->Q v' H')->rC K mg g vs H Q
abbrev kO(X:Cx)(f:Value)(g:List D->Option D):Prop:=fK X f (rC X.K X.mg g)
def aK(g:List D->Option D)(ma:M (List D)):M D:=λρ O=>(ma ρ O).bind λc b=>match g (c.map (aW b)) with
 |some d=>.ok d b
 |none=>.no
def xx{K:Frag}        (q:tM K mg md P (rO K) (aK g ma) σ H Q):tCB (rC K mg g) (tMA K mg md P ms ma) σ H Q:=by
 obtain⟨ρ,O,F,J,d,O',r,s,e,k⟩:=q;obtain⟨Y,Z,I,e⟩:=Res.bind_ok e;split at e
 ·rename_i y C;cases e;refine⟨ρ,_,F,J,_,_,r,s,I,λW H1 T b f c x=>?_⟩;exact⟨_,T,b,_,_,c,x.lks c,C,λj L U G m u=>k j L U _ (f.trans G) m (iD _ _ _ _ _ _ _ (λa E=>f.dm a E) u)⟩
 ·cases e
def tL  {p b:Pos}   {f:String}    (C:kO X (.builtin f) g)(m:X.mg x=none)(E:AE X md P ms (e::es) ma)(hv:bootBuiltins x=some (.builtin f):=by decide +kernel)(u:Gl X x:=by rfl)
  (j:x≠"__name__":=by decide) (d:(x == ("__debug__":Str))=false:=by decide) (y:starEach (e::es) X.env=(false,eval e X.env)::starEach es X.env:=by exact bZ rfl) (c:(backTo b (starEach es X.env)).any (·.1)=false:=by exact cP rfl):
  OE X md P (.Call (.Name x p) (e::es) [] b) (aK g ma):=(wH C u m hv E j d y c).imp λ_ _ _ q=>xx q
def Gi  {p b:Pos}       (y:kO X (.type T) g)(j:X.mg x=none)(C:AE X md P ms (e::es) ma)(hv:bootBuiltins x=some (.type T):=by decide +kernel)(m:Gl X x:=by rfl)
  (f:x≠"__name__":=by decide) (d:(x == ("__debug__":Str))=false:=by decide) (u:starEach (e::es) X.env=(false,eval e X.env)::starEach es X.env:=by exact bZ rfl) (c:(backTo b (starEach es X.env)).any (·.1)=false:=by exact cP rfl):
  OE X md P (.Call (.Name x p) (e::es) [] b) (aK g ma):=(wI y m j hv C f d u c).imp λ_ _ _ q=>xx q
def Lks.one{K:Frag}{H F:Hp}{b:List Addr}{vs:List V}{d:D}(h:Lks K H F b vs [d]):∃v,vs=[v]/\Lk K H F b v d:=by
 cases vs with
 |nil=>exact h.elim
 |cons v vs =>
  cases vs with
  |nil=>exact⟨v,rfl,h.1⟩
  |cons =>exact h.2.elim
def aP:List D->Option D
 | [.str l]=>if l.length<=1000000 then some (.int l.length) else none
 | [.lst ds]=>some (.int ds.length)
 | [.tup ds]=>some (.int ds.length)
 | _=>none
def Wn:kO X (.builtin "len") aP:=by
 intro pins s σ H f j Q I m h;obtain⟨O,F,x,u,d,r,b,e,k⟩:=h;unfold aP at e;split at e
 ·obtain⟨v,rfl,c⟩:=b.one;split at e
  ·rename_i q;cases e;cases(c.rp rfl).unS;refine call_len _ s σ H _ j Q I m ⟨_,_,rfl,⟨by exact eQ q,rfl⟩,?_⟩;exact bT r k rfl Rp.int
  ·cases e
 ·obtain⟨v,rfl,c⟩:=b.one;cases e;obtain⟨p,f,rfl,h1,h2⟩:=c.list r.fh;refine call_len _ s σ H _ j Q I m ⟨_,_,rfl,.inl ⟨f,h1.sq,rfl⟩,?_⟩;rw[h2.length];exact bT r k rfl Rp.int
 ·obtain⟨v,rfl,c⟩:=b.one;cases e;obtain⟨p,f,rfl,h1,h2⟩:=(c.rp rfl).unT;refine call_len _ s σ H _ j Q I m ⟨_,_,rfl,.inr ⟨f,Same.seqT r.fh h1,rfl⟩,?_⟩;rw[h2.length];exact bT r k rfl Rp.int
 ·cases e
def Wo:List D->Option D
 | [.int i,.int j]=>some (.int (if j>i then j else i))
 | _=>none
def Wq:List D->Option D
 | [.int i,.int j]=>some (.int (if j<i then j else i))
 | _=>none
def Gj:List D->Option D
 | [.int i]=>some (.int i)
 | [.bl b]=>some (.int (if b then 1 else 0))
 | _=>none
def kY:List D->Option D
 | [.lst ds]=>some (.lst ds)
 | [.tup ds]=>some (.lst ds)
 | _=>none
def Wr:kO X (.type "list") kY:=by
 intro pins s σ H c m Q I q h;obtain⟨O,F,x,u,d,r,b,e,k⟩:=h;unfold kY at e;split at e
 ·obtain⟨v,rfl,f⟩:=b.one;cases e;obtain⟨p,c,rfl,h1,h2⟩:=f.list r.fh;exact Eg _ s σ H _ m Q I q ⟨p,c,rfl,.inl h1.sq,λl j=>nF r k j h2⟩
 ·obtain⟨v,rfl,f⟩:=b.one;cases e;obtain⟨p,c,rfl,h1,h2⟩:=(f.rp rfl).unT;exact Eg _ s σ H _ m Q I q ⟨p,c,rfl,.inr (Same.seqT r.fh h1),λl j=>nF r k j h2⟩
 ·cases e
def jJ:List D->Option (List Bool)
 | []=>some []
 | .bl b::ds=>(jJ ds).map (b :: ·)
 | _=>none
theorem Rps.bools{K:Frag}{F:Hp}{c:List Addr}:∀{ds:List D}{xs:List V}{bs:List Bool},Rps K F c xs ds->jJ ds=some bs->xs=bs.map V.bl
 | [],xs,bs,h,e=>by cases e;rw[h.un0];rfl
 |d::ds,xs,bs,h,e=>by
  obtain⟨x,r,rfl,h2,h3⟩:=h.un
  cases d with
  |bl b =>
   unfold jJ at e
   cases q:jJ ds with
   |none=>rw[q] at e;cases e
   |some cs =>
    rw[q] at e;cases e;rw[h2.unB,Rps.bools h3 q];rfl
  | _=>cases e
def tO:List D->Option D
 | [.lst ds]=>(jJ ds).map λbs=>.bl (bs.all id)
 | _=>none
def Ws(u:X.calm=true):kO X (.builtin "all") tO:=by
 intro pins s σ H c f Q I j h;obtain⟨O,F,C,y,d,r,b,e,k⟩:=h;unfold tO at e;split at e
 ·rename_i x;obtain⟨v,rfl,m⟩:=b.one;obtain⟨p,c,rfl,h1,h2⟩:=m.list r.fh
  cases q:jJ x with
  |none=>rw[q] at e;cases e
  |some bs =>
   rw[q] at e;cases e;refine T6 u _ s σ H _ f Q I j ⟨p,bs,rfl,?_,bT r k rfl Rp.bl⟩;rw[<-h2.bools q];exact h1.sq
 ·cases e
def eV:List D->Option (List Int)
 | []=>some []
 | .int b::ds=>(eV ds).map (b :: ·)
 | _=>none
theorem Rps.ints{K:Frag}{F:Hp}{c:List Addr}:∀{ds:List D}{xs:List V}{bs:List Int},Rps K F c xs ds->eV ds=some bs->xs=bs.map V.int
 | [],xs,bs,h,e=>by cases e;rw[h.un0];rfl
 |d::ds,xs,bs,h,e=>by
  obtain⟨x,r,rfl,h2,h3⟩:=h.un
  cases d with
  |int b =>
   unfold eV at e
   cases q:eV ds with
   |none=>rw[q] at e;cases e
   |some cs =>
    rw[q] at e;cases e;rw[h2.unI,Rps.ints h3 q];rfl
  | _=>cases e
def nH:List D->Option D
 | [.lst ds]=>(eV ds).bind λns=>if(ns.all (λn=>decide (0<=n)&&decide (n<=1000000))&&decide (ns.length<=1000000))=true then some (.int ns.sum) else none
 | _=>none
def Wt(y:X.calm=true):kO X (.builtin "sum") nH:=by
 intro pins s σ H f j Q I m h;obtain⟨O,F,G,E,d,r,c,e,k⟩:=h;unfold nH at e;split at e
 ·rename_i C;obtain⟨v,rfl,u⟩:=c.one;obtain⟨p,f,rfl,h1,h2⟩:=u.list r.fh
  cases q:eV C with
  |none=>rw[q] at e;cases e
  |some ns =>
   rw[q] at e
   dsimp   at e
   split at e
   ·rename_i b;rw[zx,decide_eq_true_eq,jc] at b;cases e;refine T7 y _ s σ H _ j Q I m ⟨p,ns,rfl,?_,λn x=>?_,b.2,bT r k rfl Rp.int⟩
    ·rw[<-h2.ints q];exact h1.sq
    ·have:=b.1 n x
     rw[zx,decide_eq_true_eq,decide_eq_true_eq] at this;exact this
   ·cases e
 ·cases e
def Wu:bootBuiltins "len" = some (.builtin "len"):=by decide
def Wv:bootBuiltins "max" = some (.builtin "max"):=by decide
def Ww:bootBuiltins "all" = some (.builtin "all"):=by decide
def Wx:bootBuiltins "sum" = some (.builtin "sum"):=by decide
def Wz:bootBuiltins "int" = some (.type "int"):=by decide
def Gk:bootBuiltins "str" = some (.type "str"):=by decide
def WD:bootBuiltins "bool" = some (.type "bool"):=by decide
def Gm:bootBuiltins "list" = some (.type "list"):=by decide
def WK:bootBuiltins "tuple" = some (.type "tuple"):=by decide
def tyD:D->Option String
 | .non=>some "NoneType"
 | .bl _=>some "bool"
 | .int _=>some "int"
 | .str _=>some "str"
 | .lst _=>some "list"
 | .tup _=>some "tuple"
 | .dic _ _=>some "dict"
 | .ob _=>none
def dC(t n:String):Bool:=t == n || (t == "bool" && n == "int")
def cZ(n:String)(m:M D):M D:=λρ O=>(m ρ O).bind λd b=>match tyD (aW b d) with
 |some t=>.ok (.bl (dC t n)) b
 |none=>.no
def xA:List String:=["str","int","bool","list","tuple","dict"]
def WL(K:Frag):∀d t,tyD d=some t->∀n∈xA,PySem.W.kitOne K (.type t) (.type n)=some (dC t n):=by
 intro d t e n b;simp  [xA,or_false] at b
 cases d<;>cases e<;>rcases b with rfl | rfl | rfl | rfl | rfl | rfl<;>first | exact Ug  | kernel_rfl
def Lk.ty{K:Frag}      (h:Lk K H F as v d)(fh:Same F H)(e:tyD d=some t):TyQ K H v t:=by
 cases d with
 |non=>cases e;rw[(h.rp rfl).unN];exact .non
 |bl b=>cases e;rw[(h.rp rfl).unB];exact .bl _
 |int b=>cases e;rw[(h.rp rfl).unI];exact .int _
 |str b=>cases e;rw[(h.rp rfl).unS];exact .str _
 |lst f=>cases e;obtain⟨p,c,rfl,h1,h2⟩:=h.list fh;exact .lst h1.sq
 |tup f=>cases e;obtain⟨p,c,rfl,h1,h2⟩:=(h.rp rfl).unT;exact .tup (Same.seqT fh h1)
 |dic m j=>cases e;obtain⟨p,c,rfl,h1,h2⟩:=(h.rp rfl).unD;exact .dK (fh _ _ h1)
 |ob n=>cases e
def pX(n:String)   {p b c:Pos}  (L:X.mg "isinstance" = none)(W:X.mg T=none)(h:SE X md P a m)(hb:bootBuiltins T=some (.type n):=by decide +kernel)(J:n∈xA:=by decide)(U:Gl X "isinstance":=by rfl)(u:Gl X T:=by rfl)
  (y:T≠"__name__":=by decide) (C:(T == ("__debug__":Str))=false:=by decide)
  (f:starEach [a,.Name T b] X.env=(false,eval a X.env)::starEach [.Name T b] X.env:=by exact bZ rfl) (hs2:starEach [.Name T b] X.env=(false,eval (.Name T b) X.env)::starEach [] X.env:=by rfl) (hpl:(backTo c (starEach [.Name T b] X.env)).any (·.1)=false:=by exact cP rfl):
  OE X md P (.Call (.Name "isinstance" p) [a,.Name T b] [] c) (cZ n m):=
 (wH (Ue _) U L (by decide ) (fO h (fO (O8 (v:=.ty n) u W hb rfl y C) gh) f) (by decide) (by decide) f).imp λσ H Q q=>by
  obtain⟨ρ,O,F,as,d,O',r,s,e,k⟩:=q;obtain⟨x,O1,Z,e⟩:=Res.bind_ok e;split at e
  ·rename_i t G;cases e;refine⟨ρ,_,F,as,_,_,r,s,Z,λv H1 F1 E Y j I=>?_⟩;exact⟨v,n,t,_,rfl,Lk.ty (Sv.lk I j) j.fh G,WL _ _ t G n J,k _ H1 F1 E Y j (.inl ⟨rfl,Rp.bl⟩)⟩
  ·cases e
noncomputable def nJ(m:M D):M (List D):=λρ O=>(m ρ O).bind λd b=>match d with
 | .lst ds=>.ok ds b
 | _=>.no
noncomputable def xB(m:M D):M (List D):=λρ O=>(m ρ O).bind λd b=>match d with
 | .tup ds=>.ok ds b
 | _=>.no
def WM{K:Frag}       (hs:Rps K F C xs ds)(m:∀(c f:Hp) (b:List Addr),GrS P H F C c f b->(∃O,RlO K mg O c f b)->RdK K c a xs):lW K mg P (Itl K a) ds H F C:=by
 refine⟨λi d c f b g r e=>?_,λc f b g r=>⟨xs,(m c f _ g r).sq,by rw[hs.length];exact zc _⟩⟩;obtain⟨x,h1,h2⟩:=hs.get' e;have q:=m c f _ g r;refine⟨⟨xs,x,q.sq,h1⟩,λy u j=>?_⟩;obtain⟨rfl,j⟩:=j
 have:=j xs q.sq
 rw[h1] at this;cases this;exact⟨f,Gr.refl,λ_ r=>r,h2.grS g⟩
end
def Inv.turnL{σ:St}{ch:List Addr}   (I:Inv X O σ H s)(f:∀b∈ch,fB X O H b)(k:∀b o,b∉ch->s.heap.get? b=some o->h'.get? b=some o):Inv X O σ H {s with heap:=h',toks:=t'}:=by
 have j:∀b u,H b=some u->b∉ch:=λb u e z=>by rw[(f b z).1] at e;cases e
 refine I.step (g':=s.gens) (d':=s.drawn) (ch:=ch) (λb C=>?_) (λb o _ _ d e _=>k b o d e) (λb o _ _ d e _=>⟨o.slots,k b o d e⟩) (λ_ _ _ _ n=>n)
  (λb o d e=>⟨o,k b o d e⟩) (λ_ _ e=>e) (λ_ _ _ e=>e) (λb J e=>⟨#[],by rw[e];simp⟩) (λm y=>?_) (λb u e=>?_) I.bare
 ·obtain⟨f0,E,L,f3,f4,f5⟩:=f b C;exact⟨f3,E,f4,f5⟩
 ·obtain⟨o,F,G,x,r⟩:=y;exact⟨o,F,G,k _ o (λz=>(f _ z).2.1 rfl) x,r⟩
 ·refine(I.hok b u e).stay (λc v d q=>k c v ?_ q) (λ_ q=>q) λ_ _ q=>q
  rcases d with z | z
  ·rw[z];exact j b u e
  ·exact j c _ z
def Inv.turnT{σ:St}{ch:List Addr}   {T:Addr}   (I:Inv X U σ H s)(f:∀b∈ch,fB X U H b)(k:∀b o,b∉ch->s.heap.get? b=some o->h'.get? b=some o)
  (E:s.heap.objs.size<=T) (C:IsTup h' T us.toArray) (hv:aF vs us) (hz:vs.length<=sizeLine):Inv X U σ (upd H T (.tup vs)) {s with heap:=h',toks:=t'}:=by
 have j:H T=none:=I.hok.fresh E
 have x:∀b u,H b=some u->b∉ch:=λb u e z=>by rw[(f b z).1] at e;cases e
 have ne:∀b o,s.heap.get? b=some o->b≠T:=λb o e z=>by
  subst z;exact absurd (zj e) (Nat.not_lt_of_le E)
 refine I.step (g':=s.gens) (d':=s.drawn) (ch:=ch) (λb y=>?_) (λb o _ _ d e _=>k b o d e) (λb o _ _ d e _=>⟨o.slots,k b o d e⟩) (λb o _ e n=>by rw[aH (ne b o e)];exact n)
  (λb o d e=>⟨o,k b o d e⟩) (λb _ e=>by rw[aH (bV e j)];exact e) (λb _ _ e=>by rw[aH (bV e j)];exact e) (λb Q e=>⟨#[],by rw[aH (bV e j),e];simp⟩) (λm G=>?_) (λb u e=>?_) I.bare
 ·obtain⟨f0,J,R,f3,f4,f5⟩:=f b y;exact⟨f3,J,f4,f5⟩
 ·obtain⟨o,L,O,F,r⟩:=G;exact⟨o,L,O,k _ o (λz=>(f _ z).2.1 rfl) F,r⟩
 ·by_cases y:b=T
  ·subst y;rw[bz] at e;cases e;exact⟨hz,us,hv,C⟩
  ·rw[aH y] at e
   refine(I.hok b u e).stay (λc v d q=>k c v ?_ q) (λc q=>by rw[aH (bV q j)];exact q) λc P q=>by rw[aH (bV q j)];exact q
   rcases d with z | z
   ·rw[z];exact x b u e
   ·exact x c _ z
def Ite(K:Frag)(l:Addr):It:=⟨λi H=>∃b x,SqL K H l b/\b[i]?=some x,λi H v c=>∃T x,v=.ref T/\H T=none/\c=upd H T (.tup [.int i,x])/\∀b,SqL K H l b->b[i]?=some x,λi H=>∃b,SqL K H l b/\b.length<=i⟩
def Gn(l:List Nat):It:=⟨λi _=>i<l.length,λi H v b=>∃T c,v=.ref T/\H T=none/\b=upd H T (.tup [.int i,.str (S [c])])/\l[i]?=some c,λi _=>l.length<=i⟩
def tQ{h:Heap}    (e:h.get? b=some o)(d:o.data=.fields vs):∃o,h.get? b=some o/\∀v,o.data≠.cell v:=⟨o,e,λv z=>by rw[d] at z;cases z⟩
def WN   {K:Frag}    (e it l:Addr)(hne:e≠it):Turn P w K (.Tuple elts x1 pos) (Ite K l) [e,it] e (λi h=>(∃old,IsEnum h e it i old)/\h.IsListIter it l i) where
 mem:=by simp
 obj:=λi h st b hb=>by
  obtain⟨⟨old,he⟩,o,ho,hc,hd⟩:=st
  rcases zl.mp hb with rfl | hb
  ·exact tQ he rfl
  ·rw[zm.mp hb];exact tQ ho hd
 keep:=λi h h' st k=>by
  obtain⟨⟨old,he⟩,o,ho,r⟩:=st;exact⟨⟨old,k e (by simp) _ he⟩,o,k it (by simp) o ho,r⟩
 item:=by
  intro X hP hw hK hc i pins s σ H E I hf st hg;subst hP hw hK;obtain⟨⟨old,he⟩,hit⟩:=st;obtain⟨xs,x,hq,hx⟩:=hg;obtain⟨its,rv,pl,hz⟩:=I.list hq;obtain⟨u,hu,ru⟩:=rv.get hx;have hT:H s.heap.objs.size=none:=I.hok.fresh (zc _);have elt:e<s.heap.objs.size:=zj he
  refine wpAny_pyNext_enum_item he hit pl.isList (x:=u) (by simpa using hu) hne λh' ho hit' hTup hsz hk=>⟨_,rfl,?_⟩
  refine wpAny_letOwnedTupleGo_enum ho λh'' he'' hs''=>⟨.ref s.heap.objs.size,_,?_,rfl,⟨s.heap.objs.size,x,rfl,hT,rfl,λys hy=>by rw[I.list_inj hy hq];exact hx⟩,⟨⟨_,by simpa using he''⟩,hit'.extBut hs''.extBut (Ne.symm hne)⟩,λb hb=>?_⟩
  ·show Inv X pins σ _ {s with heap:=h'',toks:=s.toks+1};refine I.turnT (ch:=[e,it]) (us:=[.int i s.toks,u]) hf (λb o hb q=>?_) (zc _) ⟨_,hs''.extBut _ _ (Nat.ne_of_gt elt) hTup,rfl,_,rfl⟩ (.cons ⟨_,rfl⟩ (.cons ru .nil)) (by show 2<=sizeLine;decide)
   have h1:b≠e:=λz=>hb (by simp[z])
   have h2:b≠it:=λz=>hb (by simp[z])
   exact hs''.extBut _ _ h1 (hk b o h1 h2 q)
  ·have q:=hf b hb;rw[aH (λz=>?_)]
   ·exact q.1
   ·obtain⟨o,ho⟩:∃o,s.heap.get? b=some o:=by
     rcases zl.mp hb with rfl | hb
     ·exact⟨_,he⟩
     ·rw[zm.mp hb];obtain⟨o,ho,_⟩:=hit;exact⟨o,ho⟩
    exact absurd (zj ho) (by rw[z];exact zU _)
 done:=by
  intro X hP hw hK hc i pins s σ H E I hf st hg;subst hP hw hK;obtain⟨⟨old,he⟩,hit⟩:=st;obtain⟨xs,hq,hl⟩:=hg;obtain⟨its,rv,pl,hz⟩:=I.list hq
  refine wpAny_pyNext_enum_end (I.ok.hd hc) he hit pl.isList (by have:=rv.length;simp;omega) λh' hx=>⟨rfl,?_⟩
  exact I.turnL (t':=s.toks) (ch:=[e,it]) hf λb o hb q=>hx b o (λz=>hb (by simp[z])) q
 self:=λA i s Q E st h=>by
  obtain⟨⟨old,he⟩,_⟩:=st;exact wpAny_pyIter_enum he h
def WQ   {K:Frag}    (e it:Addr)(l:List Nat)(t:Tok)(hne:e≠it):Turn P w K (.Tuple elts x1 pos) (Gn l) [e,it] e (λi h=>(∃old,IsEnum h e it i old)/\h.IsStrIter it "str_ascii_iterator" (S l) t i) where
 mem:=by simp
 obj:=λi h st b hb=>by
  obtain⟨⟨old,he⟩,o,ho,hc,hd⟩:=st
  rcases zl.mp hb with rfl | hb
  ·exact tQ he rfl
  ·rw[zm.mp hb];exact tQ ho hd
 keep:=λi h h' st k=>by
  obtain⟨⟨old,he⟩,o,ho,r⟩:=st;exact⟨⟨old,k e (by simp) _ he⟩,o,k it (by simp) o ho,r⟩
 item:=by
  intro X hP hw hK hc i pins s σ H E I hf st hg;subst hP hw hK;obtain⟨⟨old,he⟩,hit⟩:=st;have hg':i<l.length:=hg;have hT:H s.heap.objs.size=none:=I.hok.fresh (zc _);have elt:e<s.heap.objs.size:=zj he;have hd:X.A.in1.handled=none:=I.ok.hd hc
  refine wpAny_pyNext_enum_itemD (Draws.strAscii hd it (S l) t) he hit (by simpa [S] using hg') hne (λz=>hne (by simpa using z)) λu h' tk hP ho hit' hTup hsz hk=>⟨_,rfl,?_⟩
  obtain⟨c,tc,hcx,rfl⟩:=hP
  have hcl:l[i]?=some c:=by
   rw[<-hcx];simp[S]
  refine wpAny_letOwnedTupleGo_enum ho λh'' he'' hs''=>⟨.ref s.heap.objs.size,_,?_,rfl,⟨s.heap.objs.size,c,rfl,hT,rfl,hcl⟩,⟨⟨_,by simpa using he''⟩,?_⟩,λb hb=>?_⟩
  ·show Inv X pins σ _ {s with heap:=h'',toks:=tk+1};refine I.turnT (ch:=[e,it]) (us:=[.int i tk,.str ⟨#[c]⟩ tc]) hf (λb o hb q=>?_) (zc _) ⟨_,hs''.extBut _ _ (Nat.ne_of_gt elt) hTup,rfl,_,rfl⟩ (.cons ⟨_,rfl⟩ (.cons ⟨_,rfl⟩ .nil)) (by show 2<=sizeLine;decide)
   have h1:b≠e:=λz=>hb (by simp[z])
   have h2:b≠it:=λz=>hb (by simp[z])
   exact hs''.extBut _ _ h1 (hk b o h1 h2 q)
  ·obtain⟨o,ho',r⟩:=hit';exact⟨o,hs''.extBut _ _ (Ne.symm hne) ho',r⟩
  ·have q:=hf b hb;rw[aH (λz=>?_)]
   ·exact q.1
   ·obtain⟨o,ho⟩:∃o,s.heap.get? b=some o:=by
     rcases zl.mp hb with rfl | hb
     ·exact⟨_,he⟩
     ·rw[zm.mp hb];obtain⟨o,ho,_⟩:=hit;exact⟨o,ho⟩
    exact absurd (zj ho) (by rw[z];exact zU _)
 done:=by
  intro X hP hw hK hc i pins s σ H E I hf st hg;subst hP hw hK;obtain⟨⟨old,he⟩,hit⟩:=st;have hd:X.A.in1.handled=none:=I.ok.hd hc;have hg':l.length<=i:=hg;have hT:s.TypeIs (.ref e) "enumerate":=⟨_,he,rfl⟩;unfold pyNext
  refine za (wpAny_attempt (wpAny_callSpecial?_slot (name:=Str.ofString "__next__") hT F.slot_enumerate_next
   (wpAny_call_entry F.slot_enumerate_next hT F.entry_enumerate_next ?_ (F.args_enumerate_next_1 _))))
  show wpAny _ _ (field (.ref e) 2 >>= _) _ _ _;refine za (wpAny_field he rfl (x:=.ref it) rfl ?_);refine za (wpAny_nextOf_ascii_end hd hit (by simp[S];exact hg') λh' x he' hx'=>?_);obtain⟨o,ho,hc⟩:=hx';refine za (wpAny_isInstance (T:="StopIteration") (b:=true) ⟨o,ho,hc⟩ isSubtype_stop ?_);exact zb ⟨rfl,I.turnL (t':=s.toks) (ch:=[e,it]) hf λb o hb q=>he' b o (λz=>hb (by simp[z])) q⟩
 self:=λA i s Q E st h=>by
  obtain⟨⟨old,he⟩,_⟩:=st;exact wpAny_pyIter_enum he h
def WR(K:Frag)(f:TA):TI:=λσ H R=>f σ H λd b=>∃a,d=[.ref a]/\(∃c,SqL K b a c)/\R (Ite K a) b
def WT(c:TA):TI:=λσ H R=>c σ H λb d=>∃l,b=[.str (S l)]/\ascii l=true/\R (Gn l) d
def WW  (h:ascii l=true):strIterType (S l) = "str_ascii_iterator":=by
 unfold strIterType;rw[if_pos];unfold ascii at h;rw[jc] at h;simp[S];intro i b;simpa using h i b
def WX    (E:Gl X "enumerate")(y:X.mg "enumerate" = none)(F:PA X [a] T)(hs:starEach [a] X.env=[(false,eval a X.env)]:=by exact nj rfl):PI X (.Tuple elts x1 tpos) (.Call (.Name "enumerate" p) [a] [] pos) (WR X.K T):=by
 intro pins s σ H R I h;refine Call_ (j7 I E y boot_enumerate (PyProof.Rows.callWith_type1 (thn (F _ _ s σ H _ I h) λus s1 ⟨vs,H1,I1,r1,q1⟩=>?_) hs));obtain⟨l,e,⟨L,x⟩,q⟩:=q1;subst e;obtain⟨u,rfl,j⟩:=vals1 r1;cases j;obtain⟨G,O,m,P⟩:=I1.list x
 refine call_enumerate_list m.isList λQ f d J C=>wpAny_pyIter_enum f ?_
 refine⟨s1.heap.objs.size+1,[s1.heap.objs.size+1,s1.heap.objs.size],_,_,H1,rfl,I1.kept C,WN _ _ l (Nat.succ_ne_self _),⟨⟨_,f⟩,d⟩,λb c=>?_,q⟩
 have hb':s1.heap.objs.size<=b:=by
  rcases zl.mp c with rfl | c
  ·exact Nat.le_succ _
  ·rw[zm.mp c];exact zc _
 exact I1.fpOk hb' (I1.hok.fresh hb')
def WY    (y:Gl X "enumerate")(j:X.mg "enumerate" = none)(C:PA X [a] G)(hs:starEach [a] X.env=[(false,eval a X.env)]:=by exact nj rfl):PI X (.Tuple elts x1 tpos) (.Call (.Name "enumerate" p) [a] [] pos) (WT G):=by
 intro pins s σ H R I h;refine Call_ (j7 I y j boot_enumerate (PyProof.Rows.callWith_type1 (thn (C _ _ s σ H _ I h) λus s1 ⟨vs,H1,I1,r1,q1⟩=>?_) hs));obtain⟨l,e,m,q⟩:=q1;subst e;obtain⟨u,rfl,t,rfl⟩:=vals1 r1
 refine call_enumerate_str λF f c E x=>wpAny_pyIter_enum f ?_
 rw[WW m] at c;refine⟨s1.heap.objs.size+1,[s1.heap.objs.size+1,s1.heap.objs.size],_,_,H1,rfl,I1.kept x,WQ _ _ l t (Nat.succ_ne_self _),⟨⟨_,f⟩,c⟩,λb d=>?_,q⟩
 have hb':s1.heap.objs.size<=b:=by
  rcases zl.mp d with rfl | d
  ·exact Nat.le_succ _
  ·rw[zm.mp d];exact zc _
 exact I1.fpOk hb' (I1.hok.fresh hb')
def rW(K:Frag)(P:Pt):RR:=λ_ H F b v d=>Rp K F b v d\/∃a c f,v=.ref a/\d=.lst f/\H a=some (.lst c)/\a∉b/\P a/\Rps K F b c f
def WE(X:Cx)(md:List Md)(P:Pt)(e:Expr)(m:M D):Prop:=PE X e (tM X.K X.mg md P (rW X.K P) m)
def W5   (h:VE X md P e m):WE X md P e m:=h.imp λσ H Q q=>by
 obtain⟨ρ,O,F,f,d,j,r,s,e,k⟩:=q;exact⟨ρ,O,F,f,d,j,r,s,e,λv u x y g b c=>k v u x _ g b (.inl c)⟩
def W6{X:Cx}{P:Pt}(i:Nat){x:Str}{b:Pos}(j:md[i]?=some .s:=by rfl)(hN:X.N[i]?=some x:=by rfl)(f:Vis X.env.scope x:=by first | exact Or.inl rfl | exact Or.inr (Or.inl rfl) | exact Or.inr (Or.inr rfl))
  (hd:(x == ("__debug__":Str))=false:=by decide) (c:(x == ("__classdict__":Str))=false:=by decide):WE X md P (.Name x b) (aa i):=by
 refine(j6 hN f hd c).imp λσ H Q h=>?_
 obtain⟨ρ,O,F,q,d,u,r,s,e,k⟩:=h;obtain⟨m,rfl⟩:=tG e;obtain⟨v,h2,h3⟩:=s.sl i .s d j m;exact⟨v,h2,k v H F q Gr.refl r h3⟩
def Gp{K:Frag}       (hv:rW K P N H F x v (.lst ds)):
  ∃a xs,v=.ref a/\Rps K F x xs ds/\∀(c d:Hp) (b:List Addr),GrS P H F x c d b->(∃O,RlO K mg O c d b)->RdK K c a xs:=by
 rcases hv with hv | ⟨a,xs,u,rfl,e,q,m,j,f⟩
 ·obtain⟨a,xs,rfl,h1,h2⟩:=hv.unL;exact⟨a,xs,rfl,h2,λc d b g ⟨O,r⟩=>(h1.mono g.ff).mono r.fh⟩
 ·cases e;exact⟨a,xs,rfl,f,λc d b g _=>.inl (.inl (g.fr _ _ j q m rfl))⟩
theorem Gq   (h:WE X md P e m):VI X md P tg e (nJ m):=(rY h).imp λσ H Q q=>by
 obtain⟨ρ,O,F,C,G,J,r,s,e,k⟩:=q;obtain⟨d,I,y,e⟩:=Res.bind_ok e
 cases d with
 |lst  =>
  cases e;refine⟨ρ,_,F,C,_,_,r,s,y,λv c f E x b u=>?_⟩;obtain⟨a,j,rfl,h1,h2⟩:=Gp u;exact⟨a,rfl,⟨j,(h2 c f _ GrS.refl ⟨_,b⟩).sq⟩,k _ c f _ x b (WM h1 h2)⟩
 | _=>cases e
theorem Gs   (h:VE X md P e m):VI X md P tg e (xB m):=(Qv h).imp λσ H Q q=>by
 obtain⟨ρ,O,F,U,W,Z,r,s,e,k⟩:=q;obtain⟨d,Y,T,e⟩:=Res.bind_ok e
 cases d with
 |tup  =>
  cases e;refine⟨ρ,_,F,U,_,_,r,s,T,λv E G I R J L=>?_⟩;obtain⟨a,j,rfl,h1,h2⟩:=Rp.unT L
  have C:∀(c f ) (b ),GrS P E G I c f b->(∃O,RlO X.K X.mg O c f b)->SqT _ c a j:=λc f b g ⟨O,r⟩=>Same.seqT r.fh (Same.seqT g.ff h1)
  refine⟨a,rfl,⟨j,C E G _ GrS.refl ⟨_,J⟩⟩,k _ E G _ R J ⟨λi d c f b g r e=>?_,λc f b g r=>⟨j,C c f _ g r,by rw[h2.length];exact zc _⟩⟩⟩;obtain⟨x,h3,h4⟩:=h2.get' e;have q:=C c f _ g r;refine⟨⟨j,x,q,h3⟩,λy H3 u=>?_⟩;obtain⟨rfl,u⟩:=u
  have:=u j q
  rw[h3] at this;cases this;exact⟨f,Gr.refl,λ_ r=>r,h4.grS g⟩
 | _=>cases e
def cH(l:List Nat):List D:=l.map λc=>.str [c]
def xC(m:M D):M (List D):=λρ O=>(m ρ O).bind λd b=>match d with
 | .str l=>if ascii l=true then .ok (cH l) b else .no
 | _=>.no
def xD{K:Frag}      (h1:∀(i:Nat) (d:D) (b:Hp),ds[i]?=some d->J.go i b/\∀x c,J.yld i b x c->c=b/\∀K F f,Rp K F f x d)(h2:∀b,J.stop ds.length b):lW K mg P J ds H F f :=
 ⟨λi d b j m _ _ e=>⟨(h1 i d b e).1,λx c y=>by
  obtain⟨rfl,hx⟩:=(h1 i d b e).2 x c y
  exact⟨j,Gr.refl,λ_ r=>r,hx _ _ _⟩⟩,λb _ _ _ _=>h2 b⟩
theorem Gu   (h:SE X md P e m):VI X md P tg e (xC m):=(T5 h).imp λσ H Q q=>by
 obtain⟨ρ,O,F,G,T,Y,r,s,e,k⟩:=q;obtain⟨d,W,b,e⟩:=Res.bind_ok e
 cases d with
 |str l =>
  dsimp  at e
  split at e
  ·rename_i C;cases e;refine⟨ρ,_,F,G,_,_,r,s,b,λv J L R E j u=>?_⟩;refine⟨l,(Sv.rp u rfl).unS,C,k _ J L _ E j (xD (λi d I e=>?_) λI=>by simp[cH,Its])⟩;unfold cH at e;rw[zE] at e
   cases q:l[i]? with
   |none=>rw[q] at e;cases e
   |some c =>
    rw[q] at e;cases e;refine⟨(zt.mp q).1,λx Z y=>?_⟩;obtain⟨b,U,f,rfl⟩:=y;rw[q] at f;cases f;exact⟨b,λ_ _ _=>Rp.str⟩
  ·cases e
 | _=>cases e
def gR(b:Int)(n:Nat):List D:=(List.range n).map λ(k:Nat)=>.int (b+(k:Int))
def gw(m:M (List D)):M (List D):=λρ O=>(m ρ O).bind λb c=>match b with
 | [.int j]=>if j<=1000000000/\-1000000000<=j then .ok (gR 0 j.toNat) c else .no
 | _=>.no
def W7{K:Frag}  {c:Int}   :lW K mg P (Itr c n) (gR c n) H F q:=xD (λi d j e=>by
 unfold gR at e;rw[zE] at e
 by_cases b:i<n
 ·rw[List.getElem?_range b] at e;cases e;refine⟨b,λx m y=>?_⟩;obtain⟨f,rfl⟩:=y;exact⟨f,λ_ _ _=>Rp.int⟩
 ·rw[jr (by simpa using b)] at e
  cases e) λj=>by simp[gR,Itr]
def bO.one{K:Frag}{H F:Hp}{b:List Addr}{m:Md}{vs:List V}{d:D}(h:bO K H F b [m] vs [d]):∃v,vs=[v]/\rA K m (λ_=>True) H F b v d:=by
 cases vs with
 |nil=>exact h.elim
 |cons v vs =>
  cases vs with
  |nil=>exact⟨v,rfl,h.1⟩
  |cons =>exact h.2.elim
def bO.two{K:Frag}{H F:Hp}{b:List Addr}{m n:Md}{vs:List V}{d e:D}(h:bO K H F b [m,n] vs [d,e]):∃v u,vs=[v,u]/\rA K m (λ_=>True) H F b v d/\rA K n (λ_=>True) H F b u e:=by
 cases vs with
 |nil=>exact h.elim
 |cons v vs =>
  cases vs with
  |nil=>exact h.2.elim
  |cons u us =>
   cases us with
   |nil=>exact⟨v,u,rfl,h.1,h.2.1⟩
   |cons w c=>exact h.2.2.elim
def W8{d:Expr}{p b:Pos}  (x:X.mg "range" = none)(C:AE X md P [.s] [a] m)(y:Gl X "range":=by rfl)(hs:starEach [a] X.env=[(false,eval a X.env)]:=by exact nj rfl):VI X md P d (.Call (.Name "range" p) [a] [] b) (gw m):=(Qy y x C hs).imp λσ H Q q=>by
 obtain⟨ρ,O,F,I,W,Z,r,s,e,k⟩:=q;obtain⟨U,Y,G,e⟩:=Res.bind_ok e;split at e
 ·rename_i j;split at e
  ·cases e;refine⟨ρ,_,F,I,_,_,r,s,G,λT J L R E f u=>?_⟩;obtain⟨v,rfl,c⟩:=u.one
   have:=(Sv.rp c rfl).unI
   subst this;exact⟨j,rfl,by omega,by omega,k _ J L _ E f W7⟩
  ·cases e
 ·cases e
def c7:Nat->List D->List D
 | _,[]=>[]
 |k,d::ds=>.tup [.int k,d]::c7 (k+1) ds
theorem tR:∀(k:Nat) (ds:List D),(c7 k ds).length=ds.length
 | _,[]=>rfl
 |k,d::ds=>by simp[c7,tR ]
theorem tU:∀(k:Nat) (ds:List D) (i:Nat),(c7 k ds)[i]?=(ds[i]?).map λd=>.tup [.int ((k+i:Nat):Int),d]
 |k,[],i=>by simp[c7]
 |k,d::ds,0=>by simp[c7]
 |k,d::ds,i+1=>by
  rw[c7,je,tU ];congr 1
  funext d
  congr 3;omega
def Gv{K:Frag}       (m:∃O,RlO K mg O E C y)(c:E T=none)(hx:Rps K C y xs ds):
  ∃f,Gr E C y (upd E T (.tup xs)) f y/\(∀O,RlO K mg O E C y->RlO K mg O (upd E T (.tup xs)) f y)/\Rp K f y (.ref T) (.tup ds):=by
 obtain⟨O,r⟩:=m;have d:=r.frF c
 have ff:Same C (upd C T (.tup xs)):=λb u q=>by rw[aH (bV q d)];exact q
 exact⟨upd C T _,(Gr.lay c).frz c d,λx j=>(j.lay c).frz bz d (λz=>j.all z c) rfl,Rp.mkT (.inl bz) (Rps.mono ff (λ_ _ z=>z) _ hx)⟩
def Gw(m:M D):M (List D):=λρ O=>(m ρ O).bind λd b=>match d with
 | .lst ds=>.ok (c7 0 ds) b
 | _=>.no
def Gx(m:M D):M (List D):=λρ O=>(m ρ O).bind λd b=>match d with
 | .str l=>if ascii l=true then .ok (c7 0 (cH l)) b else .no
 | _=>.no
def W9{elts:List Expr}{U:Nat}{b:Pos}  {p u:Pos}  (Z:X.mg "enumerate" = none)(h:WE X md P a m)(hg:Gl X "enumerate":=by rfl)(hs:starEach [a] X.env=[(false,eval a X.env)]:=by exact nj rfl)(E:starEach [a] X.env=(false,eval a X.env)::starEach [] X.env:=by exact bZ rfl):
  VI X md P (.Tuple elts U b) (.Call (.Name "enumerate" p) [a] [] u) (Gw m):=(WX hg Z (fO h gh E) hs).imp λσ H Q q=>by
 obtain⟨ρ,O,F,as,ds,O',r,s,e,k⟩:=q;obtain⟨d,O1,e1,e⟩:=Res.bind_ok e
 cases d with
 |lst es =>
  cases e;refine⟨ρ,_,F,as,_,_,r,s,e1,λv L R as1 g1 I Y=>?_⟩;obtain⟨a,c,rfl,h1,h2⟩:=Gp Y;refine⟨a,rfl,⟨c,(h2 L R _ GrS.refl ⟨_,I⟩).sq⟩,k _ L R _ g1 I ⟨λi d f j G g r e=>?_,λf j G g r=>⟨c,(h2 f j _ g r).sq,by rw[tR,h1.length];exact zc _⟩⟩⟩;rw[tU] at e
  cases q:es[i]? with
  |none=>rw[q] at e;cases e
  |some y =>
   rw[q] at e;cases e;obtain⟨x,h3,h4⟩:=h1.get' q;have J:=h2 f j _ g r;refine⟨⟨c,x,J.sq,h3⟩,λz H3 W=>?_⟩;obtain⟨T,x',rfl,hT,rfl,C⟩:=W
   have:=C c J.sq
   rw[h3] at this;cases this;rw[jm];exact Gv r hT (Rps.cons Rp.int (Rps.cons (h4.grS g) Rps.nil))
 | _=>cases e
def Xa{elts:List Expr}{y:Nat}{f:Pos}  {p j:Pos}  (I:X.mg "enumerate" = none)(h:SE X md P a m)(L:Gl X "enumerate":=by rfl)(hs:starEach [a] X.env=[(false,eval a X.env)]:=by exact nj rfl)(u:starEach [a] X.env=(false,eval a X.env)::starEach [] X.env:=by exact bZ rfl):
  VI X md P (.Tuple elts y f) (.Call (.Name "enumerate" p) [a] [] j) (Gx m):=(WY L I (fO h gh u) hs).imp λσ H Q q=>by
 obtain⟨ρ,O,F,Y,ds,O',r,s,e,k⟩:=q;obtain⟨d,O1,W,e⟩:=Res.bind_ok e
 cases d with
 |str l =>
  dsimp  at e
  split at e
  ·rename_i J;cases e;refine⟨ρ,_,F,Y,_,_,r,s,W,λv H1 F1 as1 U C G=>?_⟩;refine⟨l,by rw[(Sv.rp G rfl).unS],J,k _ H1 F1 _ U C ⟨λi d Z F2 x g r e=>?_,λZ F2 x g r=>?_⟩⟩
   ·rw[tU] at e;unfold cH at e;rw[zE] at e
    cases q:l[i]? with
    |none=>rw[q] at e;cases e
    |some c =>
     rw[q] at e;cases e;refine⟨(zt.mp q).1,λz H3 E=>?_⟩;obtain⟨T,c',rfl,R,rfl,b⟩:=E;rw[q] at b;cases b;rw[jm];exact Gv r R (Rps.cons Rp.int (Rps.cons Rp.str Rps.nil))
   ·show l.length<=_;rw[tR];simp[cH]
  ·cases e
 | _=>cases e
def gC:List D->Option (List (List Nat))
 | []=>some []
 | .str l::ds=>(gC ds).map (l :: ·)
 | _=>none
theorem Rps.strs{K:Frag}{F:Hp}{c:List Addr}:∀{ds:List D}{xs:List V}{ls:List (List Nat)},Rps K F c xs ds->gC ds=some ls->xs=ls.map λl=>V.str (S l)
 | [],xs,bs,h,e=>by cases e;rw[h.un0];rfl
 |d::ds,xs,bs,h,e=>by
  obtain⟨x,r,rfl,h2,h3⟩:=h.un
  cases d with
  |str b =>
   unfold gC at e
   cases q:gC ds with
   |none=>rw[q] at e;cases e
   |some cs =>
    rw[q] at e;cases e;rw[h2.unS,Rps.strs h3 q];rfl
  | _=>cases e
def lX(m:M D):M D:=λρ O=>(m ρ O).bind λd b=>match aW b d with
 | .lst ds=>match gC ds with
  |some ls=>if(ls.map List.length).sum<=1000000 then .ok (.str ls.flatten) b else .no
  |none=>.no
 | _=>.no
def Xb  {j:Nat}{p apos b:Pos}  (h:SE X md P e m)  (hx:x=S []:=by decide +kernel)
  (u:((backTo b (starEach [e] X.env)).all (λx=>!x.1)&&(backToKw b (keywordEach [] X.env)).all (λx=>x.1.isSome)&&decide ([e].length+([]:List Keyword).length+(if([]:List Keyword).isEmpty then 0 else 1)<30))=true:=by rfl)
  (c:(apos.endLine == b.line)=true:=by rfl) (hs:starEach [e] X.env=(false,eval e X.env)::starEach [] X.env:=by exact bZ rfl) (f:attributeBase (.Constant (.str x) j p) "join" X.env (eval (.Constant (.str x) j p) X.env)=eval (.Constant (.str x) j p) X.env:=by rfl) (C:(backTo b (starEach [] X.env)).any (·.1)=false:=by exact cP rfl):
  OE X md P (.Call (.Attribute (.Constant (.str x) j p) "join" apos) [e] [] b) (lX m):=
 (lR PySem.F.plainAttrs_str PySem.F.slot_str_join PySem.F.type_str_join (Uj _) CW (fO h gh hs) f u c hs).imp λσ H Q q=>by
  obtain⟨ρ,O,F,R,d,O',r,s,e,k⟩:=q;obtain⟨y,T,L,e⟩:=Res.bind_ok e
  cases ed:aW T y with
  |lst ds =>
   rw[ed] at e
   dsimp  at e
   cases es:gC ds with
   |none=>rw[es] at e;cases e
   |some ls =>
    rw[es] at e
    dsimp  at e
    split at e
    ·rename_i G;cases e;refine⟨rfl,ρ,_,F,R,_,_,r,s,L,λv U W Y J E I=>?_⟩;have q:=Sv.lk I E;rw[ed] at q;obtain⟨a,Z,rfl,h1,h2⟩:=q.list E.fh;refine⟨a,ls,by rw[hx],rfl,?_,G,k _ U W _ J E (.inl ⟨rfl,Rp.str⟩)⟩;rw[<-h2.strs es];exact h1.sq
    ·cases e
  | _=>rw[ed] at e;cases e
noncomputable def tV(mo m:M D):M D:=λρ O=>(mo ρ O).bind λa d=>(m ρ d).bind λb c=>match a,b with
 | .str l,.str n=>.ok (.bl (decide (l.take n.length=n))) c
 | _,_=>.no
def Xd  {apos c:Pos}  (T:VE X md P o mo)(h:VE X md P e m)
  (j:attributeBase o "startswith" X.env (eval o X.env)=eval o X.env:=by rfl)
  (y:((backTo c (starEach [e] X.env)).all (λx=>!x.1)&&(backToKw c (keywordEach [] X.env)).all (λx=>x.1.isSome)&&decide ([e].length+([]:List Keyword).length+(if([]:List Keyword).isEmpty then 0 else 1)<30))=true:=by rfl)
  (f:(apos.endLine == c.line)=true:=by rfl) (hs:starEach [e] X.env=(false,eval e X.env)::starEach [] X.env:=by exact bZ rfl) (C:(backTo c (starEach [] X.env)).any (·.1)=false:=by exact cP rfl):
  OE X md P (.Call (.Attribute o "startswith" apos) [e] [] c) (tV mo m):=
 (lR PySem.F.plainAttrs_str PySem.F.slot_str_startswith PySem.F.type_str_startswith Up T (fO h gh hs) j y f hs).imp λσ H Q q=>by
  obtain⟨ρ,O,F,Z,d,O',r,s,e,k⟩:=q;obtain⟨a,O1,Y,e⟩:=Res.bind_ok e;obtain⟨b,O2,W,e⟩:=Res.bind_ok e;split at e
  ·cases e;refine⟨ρ,_,F,Z,_,_,r,s,Y,λv H1 F1 E G J L=>?_⟩;cases Rp.unS L;refine⟨rfl,ρ,_,F1,E,_,_,J,s.step G,W,λu H2 F2 as2 U I R=>?_⟩;cases Rp.unS R;exact⟨_,_,rfl,rfl,k _ H2 F2 _ (G.trans U) I (.inl ⟨rfl,Rp.bl⟩)⟩
  ·cases e
def SlO.own{K:Frag}{i:Nat}(s:SlO K md P ρ σ H F y)(c:md[i]?=some .o)(b:ρ[i]?=some (some (.lst ds))):∃a xs,σ[i]?=some (some (.ref a))/\H a=some (.lst xs)/\F a=none/\a∉y/\¬P a/\Rps K F y xs ds:=by
 obtain⟨v,h1,h2⟩:=s.sl i .o _ c b
 rcases h2 with⟨h2,_⟩ | ⟨a,xs,x,rfl,q,m,u,j,f,d⟩
 ·cases h2
 ·cases q;exact⟨a,xs,h1,m,u,j,f,d⟩
def SlO.mut{K:Frag}(s:SlO K md P ρ σ H F as)(O:md[i]?=some .o)(G:ρ[i]?=some (some (.lst ds)))(E:σ[i]?=some (some (.ref a)))(hF:F a=none)(ha:a∉as)(hP:¬P a)(r:Rps K F as xs' ds'):SlO K md P (ρ.set i (some (.lst ds'))) σ (upd H a (.lst xs')) F as:=by
 have hi:i<md.length:=(zt.mp O).1;refine⟨s.len,by rw[zV];exact s.len',λc p=>?_,λj m d Q C=>?_,λj k c b fs h1 h2 h3 h4 h5 h6=>?_,λx hx=>?_⟩
 ·have:=s.pd c p
  unfold upd
  split
  ·exact λz=>nomatch z
  ·exact this
 ·by_cases h:i=j
  ·subst h;rw[O] at Q;cases Q;rw[zQ (by rw[s.len'];exact hi)] at C;cases C;exact⟨_,E,.inr ⟨a,xs',ds',rfl,rfl,bz,hF,ha,hP,r⟩⟩
  ·rw[zh h] at C;obtain⟨v,q1,u⟩:=s.sl j m d Q C;refine⟨v,q1,?_⟩
   cases m with
   |v=>exact u
   |s =>
    rcases u with u | ⟨c,W,b,L,J,U,T,I,R⟩
    ·exact .inl u
    ·exact .inr ⟨c,W,b,L,J,by rw[aH (λz=>hP (by rw[<-z];exact I))];exact U,T,I,R⟩
   |o =>
    rcases u with u | ⟨c,W,b,L,J,U,z0,T,I,R⟩
    ·exact .inl u
    ·refine .inr ⟨c,W,b,L,J,?_,z0,T,I,R⟩;rw[aH]
     ·exact U
     ·intro z;subst z L J;exact h (s.inj i j c ds b O Q G C E q1)
 ·have f:∀k b,(ρ.set i (some (.lst ds')))[k]?=some (some (D.lst b))->∃y,ρ[k]?=some (some (D.lst y)):=λk b q=>by
   by_cases h:i=k
   ·subst h;exact⟨ds,G⟩
   ·rw[zh h] at q;exact⟨b,q⟩
  obtain⟨y,q3⟩:=f j b h3;obtain⟨Z,q4⟩:=f k fs h4;exact s.inj j k c y Z h1 h2 q3 q4 h5 h6
 ·obtain⟨X,p2,p3⟩:=s.pin x hx
  have Y:i≠x.1:=λz=>by rw[<-z,O] at X;cases X
  exact⟨X,by rw[zh Y];exact p2,p3⟩
def tW  (d:H a=some (.lst xs))(b:¬P a) :GrS P H F j (upd H a o) F j :=
 ⟨λ_ _ _ _ _ _=>rfl,Same.refl F,⟨[],by simp⟩,λc u p e _ _=>by rw[aH λz=>b (by rw[<-z];exact p)];exact e,λc e=>by
  by_cases h:c=a
  ·subst h;rw[bz] at e;cases e
  ·rwa [aH h] at e,λc f u e=>by rw[aH λz=>by rw[z,d] at e;cases e];exact e⟩
def RlO.mut{K:Frag}(r:RlO K mg O H F m)(j:F a=none)(f:a∉m) :RlO K mg O (upd H a o) F m:=by
 refine⟨λc u e=>?_,r.fd,r.nd,r.len,r.fa,λn c u b d=>(r.ob n c u b d).keep (aH ?_) (Same.refl F) λ_ _ h=>h⟩
 ·rw[aH (bV e j)];exact r.fh c u e
 ·intro z;subst z;exact f (zL b)
noncomputable def dR(i:Nat)(m:M D):MS:=λρ O=>match m ρ O with
 | .ok d O'=>match ρ[i]? with
  |some (some (.lst ds))=>if ds.length<1000000 then .nx (ρ.set i (some (.lst (ds++[d])))) O' else .no
  | _=>.no
 | .ex x O'=>.ex x O'
 | .no=>.no
def Xe     (K:Frag)(mg:Str->Option Value){D:Ends}   (k:gm K mg md P R D H F j (dR i m ρ O)):
  ∃d b ds,m ρ O=.ok d b/\ρ[i]?=some (some (.lst ds))/\ds.length<1000000/\gm K mg md P R D H F j (.nx (ρ.set i (some (.lst (ds++[d])))) b):=by
 unfold dR at k;split at k
 ·rename_i d b e;split at k
  ·rename_i ds f;split at k
   ·rename_i c;exact⟨d,b,ds,e,f,c,k⟩
   ·exact False.elim k
  ·exact False.elim k
 ·exact False.elim k
 ·exact False.elim k
def Xf{R:RR}(i:Nat){x:Str}{p apos b u:Pos}   (h:VE X md P e m)(T:md[i]?=some .o:=by rfl)(hN:X.N[i]?=some x:=by rfl)(hv:Vis X.env.scope x:=by first | exact Or.inl rfl | exact Or.inr (Or.inl rfl) | exact Or.inr (Or.inr rfl))
  (hd:(x == ("__debug__":Str))=false:=by decide) (G:(x == ("__classdict__":Str))=false:=by decide)
  (f:attributeBase (.Name x p) "append" X.env (eval (.Name x p) X.env)=eval (.Name x p) X.env:=by rfl)
  (C:((backTo b (starEach [e] X.env)).all (λx=>!x.1)&&(backToKw b (keywordEach [] X.env)).all (λx=>x.1.isSome)&&decide ([e].length+([]:List Keyword).length+(if([]:List Keyword).isEmpty then 0 else 1)<30))=true:=by rfl)
  (c:(apos.endLine == b.line)=true:=by rfl) (hs:starEach [e] X.env=(false,eval e X.env)::starEach [] X.env:=by exact bZ rfl) (E:(backTo b (starEach [] X.env)).any (·.1)=false:=by exact cP rfl)
  (hsw:swapsWith (.Call (.Attribute (.Name x p) "append" apos) [e] [] b) none u.line X.env=pure false:=by rfl):
  VS X md P R (.Expr (.Call (.Attribute (.Name x p) "append" apos) [e] [] b) u) (dR i m):=
 (mY (lR PySem.F.plainAttrs_list PySem.F.slot_list_append PySem.F.type_list_append Ej (j6 hN hv hd G) (fO h gh hs) f C c hs)).imp λD σ H q=>by
  obtain⟨ρ,O,F,as,r,s,k⟩:=q;obtain⟨d,O',ds,e,Y,hz,k⟩:=Xe _ _ k;obtain⟨a,I,h1,h2,h3,h4,W,U⟩:=s.own T Y;refine⟨_,h1,.inl ⟨rfl,I,.inl (.inl h2)⟩,ρ,O,F,as,d,O',r,s,e,λy H1 Z as1 j r1 hy=>?_⟩;have s1:=s.step j
  have hn:H a≠none:=by rw[h2];exact λz=>nomatch z
  have Q:=j.fr _ _ h2 h4 rfl
  have L:Z a=none:=by rw[j.fz a _ h2 h4 rfl];exact h3
  have J:=j.out h4 hn;exact⟨a,I,y,rfl,rfl,Q,by rw[U.length];exact zI hz (by decide),k σ _ Z _ (j.toS.trans (tW Q W)) (r1.mut L J) (s1.mut T Y h1 L J W ((U.gr j).snoc hy))⟩
def Xg(K:Frag):V->List V->Hp->VK->Prop:=λx f H Q=>∃l b d c,x=.ref l/\f=[.ref b]/\H l=some (.lst d)/\RdK K H b c/\d.length+c.length<=sizeLine/\Q .non (upd H l (.lst (d++c)))
def Gy:MtM X "list.extend" (Xg X.K):=by
 intro pins s σ H x W v Y Q I C E h;obtain⟨l,b,U,R,rfl,rfl,y,L,Z,q⟩:=h;cases C;obtain⟨u,rfl,G⟩:=E.one;cases G;obtain⟨z,d,n,r,hl,e⟩:=I.lstM y;obtain⟨T,c,J,m,O⟩:=L.ok I;have P:=m.length
 have j:d.toArray.size+c.toArray.size<=sizeLine:=by rw[zF,zF];omega
 have f:¬(!d.toArray.isEmpty&&Builtin.List.listTooLong (d.toArray.size+c.toArray.size))=true:=by
  rw[Ei j,Bool.and_false];exact zv
 refine call_meets F.slot_list_extend ⟨_,e,rfl⟩ F.entry_list_extend (F.args_list_extend_2 _ _)
  (AutoSeq1.list_extend_list_list_0 l _ n b _ J f (by omega)) ⟨e,O,?_⟩
 refine⟨.non,_,I.lset y e (by simp) (r.append m) ?_,rfl,q⟩;rw[zf];omega
def gD(i:Nat)(m:M D):MS:=λρ O=>match m ρ O with
 | .ok d O'=>match ρ[i]?,aW O' d with
  |some (some (.lst ds)),.lst es=>if ds.length+es.length<=1000000 then .nx (ρ.set i (some (.lst (ds++es)))) O' else .no
  | _,_=>.no
 | .ex x O'=>.ex x O'
 | .no=>.no
def Xh     (K:Frag)(mg:Str->Option Value){D:Ends}   (k:gm K mg md P R D H F q (gD i m ρ O)):
  ∃d b ds es,m ρ O=.ok d b/\ρ[i]?=some (some (.lst ds))/\aW b d=.lst es/\ds.length+es.length<=1000000/\gm K mg md P R D H F q (.nx (ρ.set i (some (.lst (ds++es)))) b):=by
 unfold gD at k;split at k
 ·rename_i d b e;split at k
  ·rename_i ds es j f;split at k
   ·rename_i c;exact⟨d,b,ds,es,e,j,f,c,k⟩
   ·exact False.elim k
  ·exact False.elim k
 ·exact False.elim k
 ·exact False.elim k
def Xi{R:RR}(i:Nat){x:Str}{p apos c C:Pos}   (h:SE X md P e m)(Z:md[i]?=some .o:=by rfl)(hN:X.N[i]?=some x:=by rfl)(hv:Vis X.env.scope x:=by first | exact Or.inl rfl | exact Or.inr (Or.inl rfl) | exact Or.inr (Or.inr rfl))
  (hd:(x == ("__debug__":Str))=false:=by decide) (J:(x == ("__classdict__":Str))=false:=by decide)
  (j:attributeBase (.Name x p) "extend" X.env (eval (.Name x p) X.env)=eval (.Name x p) X.env:=by rfl)
  (E:((backTo c (starEach [e] X.env)).all (λx=>!x.1)&&(backToKw c (keywordEach [] X.env)).all (λx=>x.1.isSome)&&decide ([e].length+([]:List Keyword).length+(if([]:List Keyword).isEmpty then 0 else 1)<30))=true:=by rfl)
  (f:(apos.endLine == c.line)=true:=by rfl) (hs:starEach [e] X.env=(false,eval e X.env)::starEach [] X.env:=by exact bZ rfl) (G:(backTo c (starEach [] X.env)).any (·.1)=false:=by exact cP rfl)
  (hsw:swapsWith (.Call (.Attribute (.Name x p) "extend" apos) [e] [] c) none C.line X.env=pure false:=by rfl):
  VS X md P R (.Expr (.Call (.Attribute (.Name x p) "extend" apos) [e] [] c) C) (gD i m):=
 (mY (lR PySem.F.plainAttrs_list PySem.F.slot_list_extend PySem.F.type_list_extend Gy (j6 hN hv hd J) (fO h gh hs) j E f hs)).imp λD σ H q=>by
  obtain⟨ρ,O,F,as,r,s,k⟩:=q;obtain⟨d,O',ds,es,e,e2,e3,hz,k⟩:=Xh _ _ k;obtain⟨a,L,h1,h2,h3,h4,h5,h6⟩:=s.own Z e2;refine⟨_,h1,.inl ⟨rfl,L,.inl (.inl h2)⟩,ρ,O,F,as,d,O',r,s,e,λy H1 F1 as1 u I hy=>?_⟩;have s1:=s.step u
  have hn:H a≠none:=by rw[h2];exact λz=>nomatch z
  have W:=u.fr _ _ h2 h4 rfl
  have U:F1 a=none:=by rw[u.fz a _ h2 h4 rfl];exact h3
  have T:=u.out h4 hn;have Y:=Sv.lk hy I;rw[e3] at Y;obtain⟨b,zs,rfl,w1,Q⟩:=Y.list I.fh;exact⟨a,b,L,zs,rfl,rfl,W,w1,by rw[h6.length,Q.length];exact eQ hz,k σ _ F1 _ (u.toS.trans (tW W h5)) (I.mut U T) (s1.mut Z e2 h1 U T h5 (Rps.append Q (h6.gr u)))⟩
def nM(i:Nat)(mi m:M D):MS:=λρ O=>match m ρ O with
 | .ok d O1=>match mi ρ O1 with
  | .ok (.int j) O2=>match ρ[i]? with
   |some (some (.lst ds))=>match ixN ds.length j with
    |some n=>.nx (ρ.set i (some (.lst (ds.set n d)))) O2
    |none=>.no
   | _=>.no
  | _=>.no
 | .ex x O'=>.ex x O'
 | .no=>.no
def Xj{R:RR}(i:Nat){x:Str}{p b apos:Pos}   (h:VE X md P e m)(hi:VE X md P ix mi)(G:md[i]?=some .o:=by rfl)(hN:X.N[i]?=some x:=by rfl)(hv:Vis X.env.scope x:=by first | exact Or.inl rfl | exact Or.inr (Or.inl rfl) | exact Or.inr (Or.inr rfl))
  (hd:(x == ("__debug__":Str))=false:=by decide) (c:(x == ("__classdict__":Str))=false:=by decide)
  (ha:∀v,assign (.Subscript (.Name x p) ix apos) X.env v=(do
   let ov <-holding [v] (eval (.Name x p) X.env)
   let iv <-holding [v,ov] (eval ix X.env)
   standAt apos
   holding [v,ov,iv] (setItem ov iv v)
   release [v,ov,iv] []):=by intro _;rfl)
  (hs:swapsWithSole [.Subscript (.Name x p) ix apos] e b.line X.env=pure false:=by rfl) (hw:swappedStores [.Subscript (.Name x p) ix apos] e X.env=pure none:=by rfl)
  (h1:(assignEach [.Subscript (.Name x p) ix apos] X.env).map (·.2)=[assign (.Subscript (.Name x p) ix apos) X.env]:=by rfl):
  VS X md P R (.Assign [.Subscript (.Name x p) ix apos] e b) (nM i mi m):=
 (Di h (Qo (j6 hN hv hd c) hi set_list ha) hs).imp λD σ H q=>by
  obtain⟨ρ,O,F,as,r,s,k⟩:=q;unfold nM at k;split at k
  ·rename_i d U e1;split at k
   ·rename_i j O2 e2;split at k
    ·rename_i ds T;split at k
     ·rename_i n e4;obtain⟨a,Y,h1,h2,h3,h4,J,I⟩:=s.own G T;refine⟨ρ,O,F,as,d,U,r,s,e1,λy H1 F1 f Q r1 hy=>?_⟩;refine⟨_,h1,ρ,U,F1,f,.int j,O2,r1,s.step Q,e2,λz H2 W as2 L Z hz=>?_⟩;have g:=Q.trans L
      have hn:H a≠none:=by rw[h2];exact λz=>nomatch z
      have E:=g.fr _ _ h2 h4 rfl
      have C:W a=none:=by rw[g.fz a _ h2 h4 rfl];exact h3
      have u:=g.out h4 hn;exact⟨a,Y,j,n,rfl,Rp.unI hz,E,by rw[I.length];exact e4,k σ _ W _ (g.toS.trans (tW E J)) (Z.mut C u) ((s.step g).mut G T h1 C u J ((I.gr g).set n (Rp.gr hy L)))⟩
     ·exact False.elim k
    ·exact False.elim k
   ·exact False.elim k
  ·exact False.elim k
  ·exact False.elim k
def putD(f:Str)(v:D):List (Str×D)->List (Str×D)
 | []=>[(f,v)]
 | (g,x)::r=>if g=f then(g,v)::r else(g,x)::putD f v r
def FsR.cons_inv{K:Frag}     (h:FsR K F as gs ((f,d)::fs)):∃v gs',gs=(f,v)::gs'/\Rp K F as v d/\FsR K F as gs' fs:=by
 obtain⟨h1,h2⟩:=h
 cases gs with
 |nil=>cases h1
 |cons g gs' =>
  obtain⟨c,b⟩:=g;simp only[zg,List.cons.injEq] at h1;obtain⟨x,r,e,h3,h4⟩:=h2.un;simp only[zg,List.cons.injEq] at e;obtain⟨rfl,rfl⟩:=e;exact⟨b,gs',by rw[h1.1],h3,⟨h1.2,h4⟩⟩
def FsR.nil_inv{K:Frag}  (h:FsR K F b gs []):gs=[]:=List.map_eq_nil_iff.mp h.nm
theorem FsR.get{K:Frag}{F:Hp}{b:List Addr}:∀{fs:List (Str×D)}{gs:List (Str×V)}{f:Str}{d:D},FsR K F b gs fs->fs.lookup f=some d->∃v,gs.lookup f=some v/\Rp K F b v d
 | [],_,_,_,_,e=>by cases e
 | (g,x)::fs,gs,f,d,h,e=>by
  obtain⟨v,gs',rfl,h1,h2⟩:=h.cons_inv;rw[List.lookup_cons] at e ⊢
  cases q:f == g with
  |true =>
   rw[q] at e;cases e;exact⟨v,rfl,h1⟩
  |false =>
   rw[q] at e;exact FsR.get h2 e
theorem FsR.no{K:Frag}{F:Hp}{b:List Addr}:∀{fs:List (Str×D)}{gs:List (Str×V)}{f:Str},FsR K F b gs fs->fs.lookup f=none->gs.lookup f=none
 | [],_,_,h,e=>by rw[h.nil_inv];rfl
 | (g,x)::fs,gs,f,h,e=>by
  obtain⟨v,gs',rfl,h1,h2⟩:=h.cons_inv;rw[List.lookup_cons] at e ⊢
  cases q:f == g with
  |true=>rw[q] at e;cases e
  |false =>
   rw[q] at e;exact FsR.no h2 e
theorem FsR.put{K:Frag}    (hv:Rp K F as v d):∀{fs:List (Str×D)}{gs:List (Str×V)},FsR K F as gs fs->FsR K F as (dB f v gs) (putD f d fs)
 | [],_,h=>by
  rw[h.nil_inv];exact⟨rfl,Rps.cons hv Rps.nil⟩
 | (g,x)::fs,gs,h=>by
  obtain⟨u,gs',rfl,h1,h2⟩:=h.cons_inv;rw[dB,putD]
  by_cases q:g=f
  ·rw[if_pos q,if_pos q];exact⟨by simp[h2.nm],Rps.cons hv h2.vl⟩
  ·rw[if_neg q,if_neg q];have b:=FsR.put (f:=f) hv h2;exact⟨by simp[b.nm],Rps.cons h1 b.vl⟩
def FsR.length{K:Frag}   (h:FsR K F b gs fs):gs.length=fs.length:=by
 have:=congrArg List.length h.nm
 simpa using this
def RlO.set{K:Frag}        (r:RlO K mg O H F C)(f:C[n]?=some a)(q:ObR K mg (upd H a u) F C a o):RlO K mg (O.set n o) (upd H a u) F C:=by
 have x:=r.fa a (zL f);refine⟨λc w e=>?_,r.fd,r.nd,by rw[zV];exact r.len,r.fa,λk c w d b=>?_⟩
 ·rw[aH (bV e x)];exact r.fh c w e
 ·by_cases h:n=k
  ·subst h;rw[f] at d;cases d;rw[zQ (by rw[<-r.len];exact(zt.mp f).1)] at b;cases b;exact q
  ·rw[zh h] at b
   refine(r.ob k c w d b).keep (aH ?_) (Same.refl F) λ_ _ h=>h
   intro z;subst z;obtain⟨l1,m⟩:=zt.mp f;obtain⟨y,j⟩:=zt.mp d;exact h ((List.getElem_inj r.nd).mp (m.trans j.symm))
def KC(K:Frag)(mg:Str->Option Value)(c f:Str):Prop:=∃C,mg c=some (.ref C)/\Cls K C/\lO K C f
noncomputable def aX(j:List Str)(f:Str)(m:M D):M D:=λρ O=>(m ρ O).bind λd b=>match d with
 | .ob n=>match b[n]? with
  |some (.ins c fs)=>if c∈j then match fs.lookup f with
   |some y=>.ok y b
   |none=>.no else .no
  | _=>.no
 | _=>.no
def Xk      (E:∀c∈cs,KC X.K X.mg c f)(h:VE X md P o m)(hb:attributeBase o f X.env (eval o X.env)=eval o X.env:=by rfl):VE X md P (.Attribute o f pos) (aX cs f m):=(Rn h hb).imp λσ H Q q=>by
 obtain⟨ρ,O,F,as,d,O',r,s,e,k⟩:=q;obtain⟨x,O1,Y,e⟩:=Res.bind_ok e
 cases x with
 |ob n =>
  dsimp  at e
  split at e
  ·rename_i c fs W;split at e
   ·rename_i b;split at e
    ·rename_i y U;cases e;refine⟨ρ,_,F,as,_,_,r,s,Y,λv H1 F1 as1 T j u=>?_⟩;obtain⟨a,rfl,G⟩:=Rp.unO u;obtain⟨C,Z,gs,h1,h2,h3⟩:=j.ob n a _ G W;obtain⟨C',h4,R,L⟩:=E c b;rw[h1] at h4;cases h4;obtain⟨w,J,I⟩:=h3.get U;exact⟨a,C,Z,gs,w,rfl,h2,R,L,J,k w H1 F1 _ T j I⟩
    ·cases e
   ·cases e
  ·cases e
 | _=>cases e
def bI(j:List Str)(f:Str)(mo b:M D):MS:=λρ O=>match b ρ O with
 | .ok d O1=>match mo ρ O1 with
  | .ok (.ob n) O2=>match O2[n]? with
   |some (.ins c fs)=>if c∈j/\fs.length<900 then .nx ρ (O2.set n (.ins c (putD f d fs))) else .no
   | _=>.no
  | _=>.no
 | .ex x O'=>.ex x O'
 | .no=>.no
def Xl      (hc:∀c∈cs,KC X.K X.mg c f)(ho:VE X md P o mo)(hv:VE X md P value mv)(hs:swapsWith value (some (.Attribute o f pos')) pos.line X.env=pure false:=by rfl):VS X md P R (.Assign [.Attribute o f pos'] value pos) (bI cs f mo mv):=(Ro ho hv hs).imp λD σ H q=>by
 obtain⟨ρ,O,F,as,r,s,k⟩:=q;unfold bI at k;split at k
 ·rename_i d W e1;split at k
  ·rename_i n O2 e2;split at k
   ·rename_i c fs eo;split at k
    ·rename_i I;refine⟨ρ,O,F,as,d,W,r,s,e1,λy H1 F1 J U Z hy=>?_⟩;refine⟨ρ,W,F1,J,.ob n,O2,Z,s.step U,e2,λz Y G j T L hz=>?_⟩;have g:=U.trans T;obtain⟨a,rfl,x⟩:=Rp.unO hz;obtain⟨C,E,gs,h1,h2,h3⟩:=L.ob n a _ x eo;obtain⟨C',h4,h5,h6⟩:=hc c I.1;rw[h1] at h4;cases h4;have m:=zL x
     have Q:Gr Y G j (upd Y a (.ins C E (dB f y gs))) G j:=⟨λ_ _ _ _ _=>rfl,Same.refl _,⟨[],by simp⟩,λb u e hb _=>by rw[aH λz=>hb (by rw[z];exact m)];exact e,λb e=>by
      by_cases h:b=a
      ·subst h;rw[bz] at e;cases e
      ·rwa [aH h] at e,λb o' u e=>by rw[aH λz=>by rw[z,h2] at e;cases e];exact e⟩
     refine⟨a,C,E,gs,rfl,h2,h5,h6,by rw[h3.length];omega,?_⟩;exact k σ _ G _ (g.trans Q).toS (L.set x ⟨C,E,_,h1,bz,h3.put (Rp.gr hy T)⟩) ((s.step g).step Q)
    ·exact False.elim k
   ·exact False.elim k
  ·exact False.elim k
 ·exact False.elim k
 ·exact False.elim k
section
variable {Pr:Program}{w:World}{K:Frag}{mg:Str->Option Value}{base:Heap}
def Gz{K:Frag}  {st:Stmt}     (Fn:Fun K x qual st f fd)(S:gj N ps (aZ st))
  (pm T:List Md)   (hR:eO R) (J:∀N H F u,R N H F u .non .non) (I:pm.length=ps.length) (Z:(pm++T).length=N.length) (Y:∀m∈pm,m≠.o)
  (body:∀(j:Value) (A:Around) (outer:List Env) (s:Shared) (H:Hp) (E:XK),aV k (A.deeper (envOfC qual (aZ st) s.heap.objs.size f j))->∀P,VSs ((gk CX0 Pr w K mg base N qual (aZ st) f j A outer s H E).nox) (pm++T) P R (cL st) b):
  cG Pr w K mg base CX0 (k+1) f fd ps (vSp K mg pm R (aL N.length b)):=by
 refine Fn.ok S (λU H Q E h=>?_) λj A outer s H U Q E X h=>?_
 ·obtain⟨ds,O,F,u,d,O',r,a,_⟩:=h;rw[a.len.1,I]
 ·obtain⟨ds,O,F,u,d,O',r,a,e,q⟩:=h;refine⟨_,body _ A _ s H E X (Pt.all H),?_⟩;refine⟨_,O,F,u,r,xn a Z Y,?_⟩;unfold aL at e
  cases eb:b _ O with
  |rt  =>
   rw[eb] at e;cases e
   exact λv C G L g y W=>q v C G _ g.gr y (hR _ _ _ _ _ _ _ (λc hc=>Classical.not_not.mp hc) W)
  |nx  =>
   rw[eb] at e;cases e
   exact λσ' C G L g y _=>q _ C G _ g.gr y (J _ _ _ _)
  | bk
  | ct
  | ex
  |no=>rw[eb] at e;cases e
def b8(K:Frag)(mg:Str->Option Value)(c m qual:Str)(st:Stmt):Prop:=∃C f fd,mg c=some (.ref C)/\Cls K C/\m6 K C m f/\Fun K m qual st f fd
inductive iJ (P:Program) (w:World) (K:Frag) (mg:Str->Option Value) (base:Heap) (c m:Str) (ps:List Str) (k:Nat) (sp:Sp):Prop
 | mk:∀C f fd,mg c=some (.ref C)->Cls K C->m6 K C m f->Binds K fd ps []->cG P w K mg base CX0 k f fd ps sp->iJ P w K mg base c m ps k sp
inductive pY (P:Program) (w:World) (K:Frag) (mg:Str->Option Value) (base:Heap) (c:Str) (ps:List Str) (k:Nat) (sp:Sp):Prop
 | mk:∀C f fd,mg c=some (.ref C)->Mk K C f->Binds K fd ps []->cG P w K mg base CX0 k f fd ps sp->pY P w K mg base c ps k sp
def nO(K:Frag)(mg:Str->Option Value)(c qual:Str)(st:Stmt):Prop:=∃C f fd,mg c=some (.ref C)/\Mk K C f/\Fun K "__init__" qual st f fd
def Xm{Pr:Program}{w:World}{K:Frag}{base:Heap}  {st:Stmt}  {k:Nat}(Q:b8 K mg c x T st)(S:gj N ps (aZ st))
  (hb:∀(kV y pm:Value) (O:Option Addr) (d ct:Value) (us:List Value),us.length=ps.length->bindArgs (PySem.W.fnOf x T (dI st) (cL st) (aZ st) .none kV y pm O d ct) ⟨us,[]⟩=pure (ps.zip us))
  (pm j:List Md)  {b:MS} (J:eO R) (u:∀N H F L,R N H F L .non .non) (q:pm.length=ps.length:=by rfl) (I:(pm++j).length=N.length:=by rfl) (G:∀m∈pm,m≠.o:=by decide)
  (body:∀(f:Addr) (d:Value) (A:Around) (outer:List Env) (s:Shared) (H:Hp) (E:XK),aV k (A.deeper (envOfC T (aZ st) s.heap.objs.size f d))->∀P,VSs ((gk CX0 Pr w K mg base N T (aZ st) f d A outer s H E).nox) (pm++j) P R (cL st) b):
  iJ Pr w K mg base c x ps (k+1) (vSp K mg pm R (aL N.length b)):=by
 obtain⟨C,f,fd,h1,h2,h3,h4⟩:=Q;exact⟨C,f,fd,h1,h2,h3,h4.binds hb,Gz h4 S pm j J u q I G (body f)⟩
def Xn{Pr:Program}{w:World}{K:Frag}{base:Heap}  {st:Stmt}  {k:Nat}(O:nO K mg c Q st)(S:gj N ps (aZ st))
  (hb:∀(kV x pm:Value) (L:Option Addr) (d ct:Value) (us:List Value),us.length=ps.length->bindArgs (PySem.W.fnOf "__init__" Q (dI st) (cL st) (aZ st) .none kV x pm L d ct) ⟨us,[]⟩=pure (ps.zip us))
  (pm j:List Md)  {b:MS} (I:eO R) (u:∀N H F J,R N H F J .non .non) (q:pm.length=ps.length:=by rfl) (G:(pm++j).length=N.length:=by rfl) (y:∀m∈pm,m≠.o:=by decide)
  (body:∀(f:Addr) (d:Value) (A:Around) (outer:List Env) (s:Shared) (H:Hp) (E:XK),aV k (A.deeper (envOfC Q (aZ st) s.heap.objs.size f d))->∀P,VSs ((gk CX0 Pr w K mg base N Q (aZ st) f d A outer s H E).nox) (pm++j) P R (cL st) b):
  pY Pr w K mg base c ps (k+1) (vSp K mg pm R (aL N.length b)):=by
 obtain⟨C,f,fd,h1,h2,h4⟩:=O;exact⟨C,f,fd,h1,h2,h4.binds hb,Gz h4 S pm j I u q G y (body f)⟩
end
noncomputable def aN(c m:Str)(cf:List D->au->Res D)(mo:M D)(ma:M (List D)):M D:=λρ O=>(mo ρ O).bind λd b=>match d with
 | .ob n=>match b[n]? with
  |some (.ins c' fs)=>if c'=c/\(fs.lookup m).isNone=true then(ma ρ b).bind λf j=>cf (.ob n::f) j else .no
  | _=>.no
 | _=>.no
def GC{K:Frag}   (hR:eO R)(hC:mg c=some (.ref C))     (q:tM K mg md P R (aN c m cf mo ma) σ H Q):
  wD C m (vSp K mg (.v::pm) R cf) [] E (tM K mg md P (rV K) mo) (tMA K mg md P pm ma) σ H Q:=by
 obtain⟨ρ,O,F,as,d,O',r,s,e,k⟩:=q;obtain⟨x,W,e1,e⟩:=Res.bind_ok e
 cases x with
 |ob n =>
  dsimp  at e
  split at e
  ·rename_i c' fs eo;split at e
   ·rename_i L;obtain⟨T,U,e2,e⟩:=Res.bind_ok e;refine⟨ρ,O,F,as,.ob n,W,r,s,e1,λv H1 F1 G j I J=>?_⟩;obtain⟨a,rfl,ha⟩:=Rp.unO J;obtain⟨C',dx,gs,h1,h2,h3⟩:=I.ob n a _ ha eo;rw[L.1,hC] at h1;cases h1;refine⟨a,dx,gs,rfl,h2,h3.no (Option.isNone_iff_eq_none.mp L.2),?_⟩;refine⟨ρ,W,F1,G,T,U,I,s.step j,e2,λvs H2 F2 y f Y u=>?_⟩;rw[zJ];exact⟨.ob n::T,U,F2,y,d,O',Y,⟨Rp.gr J f,u⟩,e,λX H' F' as' g' Z hw=>k X H' F' _ ((j.trans f).trans g') Z (hR _ _ _ _ _ _ _ (λb hb=>(j.trans f).dm b hb) hw)⟩
   ·cases e
  ·cases e
 | _=>cases e
def GD{b apos:Pos}{pl:Sem Bool}(F:eO R)(M:iJ X.prog X.w X.K X.mg X.base c m ps k (vSp X.K X.mg (.v::pm) R cf))(x:aV k X.A)(y:VE X md P o mo)(E:AE X md P pm (e::es) ma)
  (d:starEach (e::es) X.env=(false,eval e X.env)::starEach es X.env:=by exact bZ rfl) (j:(backTo b (starEach es X.env)).any (·.1)=false:=by exact cP rfl)
  (u:eval (.Call (.Attribute o m apos) (e::es) [] b) X.env=(do
   let ov <-eval o X.env
   standAt apos.atName
   let (f,first) <-holding [ov] (getMethod ov m pl)
   callWith b f first (backTo b (starEach (e::es) X.env)) (backToKw b (keywordEach [] X.env))):=by rfl):
  PE X (.Call (.Attribute o m apos) (e::es) [] b) (tM X.K X.mg md P R (aN c m cf mo ma)):=by
 obtain⟨C,f,fd,h1,h2,h3,h4,G⟩:=M
 exact(RB y h2 h3 G x h4 .nil lU E d j u).imp λ_ _ _ q=>GC F h1 q
def GF  (L:eO R)(M:iJ X.prog X.w X.K X.mg X.base c m ps k (vSp X.K X.mg [.v] R cf))(I:aV k X.A)(J:VE X md P o mo)
  (G:eval (.Call (.Attribute o m apos) [] [] pos) X.env=(do
   let ov <-eval o X.env
   standAt apos.atName
   let (f,first) <-holding [ov] (getMethod ov m pl)
   callWith pos f first (backTo pos (starEach [] X.env)) (backToKw pos (keywordEach [] X.env))):=by rfl):
  PE X (.Call (.Attribute o m apos) [] [] pos) (tM X.K X.mg md P R (aN c m cf mo ao)):=by
 obtain⟨C,f,fd,h1,h2,h3,h4,T⟩:=M
 refine(RC J h2 h3 T I h4 .nil lU G).imp λσ H Q q=>?_
 obtain⟨ρ,O,F,as,d,O',r,s,e,k⟩:=GC (E:=E0) L h1 q;refine⟨ρ,O,F,as,d,O',r,s,e,λv b F' as' g u y=>?_⟩;obtain⟨a,dx,fs,Z,Y,W,t⟩:=k v b F' _ g u y;refine⟨a,dx,fs,Z,Y,W,?_⟩;obtain⟨ρ1,O1,F1,as1,ds1,O2,j,s1,U,x⟩:=t;cases U;exact x [] b F1 _ Gr.refl j trivial
noncomputable def dD(c:Str)(cf:List D->au->Res D)(ma:M (List D)):M D:=λρ O=>(ma ρ O).bind λd b=>match cf (.ob b.length::d) (b++[.ins c []]) with
 | .ok .non O2=>.ok (.ob b.length) O2
 | .ok _ _=>.no
 | .ex x O2=>.ex x O2
 | .no=>.no
def xE{K:Frag}   (hC:mg c=some (.ref C))     (q:tM K mg md P (rV K) (dD c cf ma) σ H Q):
  wG C (vSp K mg (.v::pm) (rV K) cf) [] E (tMA K mg md P pm ma) σ H Q:=by
 obtain⟨ρ,O,F,as,d,O',r,s,e,k⟩:=q;obtain⟨ds,J,e1,e⟩:=Res.bind_ok e;split at e
 ·rename_i O2 ec;cases e;refine⟨ρ,O,F,as,ds,J,r,s,e1,λvs L y f g1 u X=>?_⟩;intro x G hx U Y;rw[zJ]
  have R:upd L G (.own x) x=none:=by rw[aH Y.symm];exact hx
  have gA:Gr L y _ (upd L G (.own x)) y f:=Gr.lay U;have gB:Gr _ y _ (upd _ x (.ins C G [])) y f:=Gr.lay R;have m:=gA.trans gB;have g2:Gr L y _ _ y _:=⟨m.fz,m.ff,⟨[x],rfl,λa j=>by rw[zm.mp j];exact hx⟩,λa o e j hd=>m.fr a o e j hd,m.dm,m.kz⟩
  have nx :=λz=>u.all z hx
  have W:=(u.lay U).lay (o:=.ins C G []) R
  have at_:∀(n ) (a ),f[n]?=some a->(f++[x])[n]?=some a:=λn a h=>by
   rw[zD (zt.mp h).1];exact h
  have r2:RlO K mg (J++[.ins c []]) (upd (upd L G (.own x)) x (.ins C G [])) y (f++[x]):=by
   refine⟨W.fh,W.fd,?_,by simp[u.len],λa j=>?_,λn a o j I=>?_⟩
   ·rw[jo];refine⟨u.nd,by simp,λa j b hb=>?_⟩;rw[zm.mp hb];intro z;subst z;exact nx j
   ·rcases zB.mp j with z | z
    ·exact u.fa a z
    ·rw[zm.mp z];exact u.frF hx
   ·by_cases Z:n<J.length
    ·rw[zD (by rw[u.len];exact Z)] at j;rw[zD Z] at I;exact(W.ob n a o j I).keep rfl (Same.refl _) at_
    ·have hn':n=J.length:=by
      have:=(zt.mp I).1
      simp at this
      omega
     subst hn';rw[zK (zc _),Nat.sub_self] at I;rw[<-u.len,zK (zc _),Nat.sub_self] at j;cases I;cases j;exact⟨C,G,[],hC,bz,⟨rfl,Rps.nil⟩⟩
  have T:Rp K y (f++[x]) _ (.ob J.length):=Rp.mkO (by rw[<-u.len,zK (zc _),Nat.sub_self];rfl);refine⟨.ob _::ds,_,y,f++[x],.non,_,r2,⟨T,X.gr g2⟩,ec,λv H3 F3 as3 g3 r3 hv=>?_⟩;exact⟨Rp.unN hv,k _ H3 F3 _ ((g1.trans g2).trans g3) r3 (Rp.gr T g3)⟩
 ·cases e
 ·cases e
 ·cases e
def Xo{p b:Pos}(M:pY X.prog X.w X.K X.mg X.base c ps k (vSp X.K X.mg (.v::pm) (rV X.K) cf))(m:aV (k+1) X.A)(y:AE X md P pm (e::es) ma)(u:Gl X c:=by rfl)(j:(c == ("__debug__":Str))=false:=by decide)
  (x:starEach (e::es) X.env=(false,eval e X.env)::starEach es X.env:=by exact bZ rfl) (d:(backTo b (starEach es X.env)).any (·.1)=false:=by exact cP rfl):VE X md P (.Call (.Name c p) (e::es) [] b) (dD c cf ma):=by
 obtain⟨C,f,fd,h1,h3,h4,E⟩:=M
 exact(DK h3 E m u h1 h4 .nil lU y j x d).imp λ_ _ _ q=>xE h1 q
def Xp{md:List Md}{P:Pt}{p b:Pos}(M:pY X.prog X.w X.K X.mg X.base c ps k (vSp X.K X.mg [.v] (rV X.K) cf))(j:aV (k+1) X.A)(m:Gl X c:=by rfl)(d:(c == ("__debug__":Str))=false:=by decide):VE X md P (.Call (.Name c p) [] [] b) (dD c cf ao):=by
 obtain⟨C,f,fd,h1,h3,h4,u⟩:=M
 refine(RD h3 u j m h1 h4 .nil lU d).imp λσ H Q q=>?_
 obtain⟨ρ,O,F,x,y,E,r,s,e,k⟩:=xE h1 q;cases e;exact k [] H F x Gr.refl r trivial
def lY:D->Option (List D)
 | .lst ds=>some ds
 | .tup ds=>some ds
 | .str l=>if ascii l=true then some (cH l) else none
 | _=>none
def bF(m:M D):M (List D):=λρ O=>(m ρ O).bind λd c=>match lY d with
 |some b=>.ok b c
 |none=>.no
def xF   (h:WE X md P e m):SE X md P e m:=h.imp λσ H Q q=>by
 obtain⟨ρ,O,F,G,d,I,r,s,e,k⟩:=q;refine⟨ρ,O,F,G,d,I,r,s,e,λv J L R g f b=>k v J L _ g f ?_⟩
 rcases b with b | ⟨a,c,E,C,y,x,u,T,j⟩
 ·exact .inl b
 ·exact .inr ⟨a,c,E,C,y,x,u,j⟩
theorem Xq   (h:WE X md P e m):VI X md P tg e (bF m):=λpins s σ H Q I q=>by
 obtain⟨ρ,O,F,f,x,C,r,sl,e,k⟩:=q;obtain⟨d,y,c,e⟩:=Res.bind_ok e
 cases d with
 |lst  =>
  cases e;exact Gq h _ s σ H Q I ⟨ρ,O,F,f,_,_,r,sl,by unfold nJ;rw[c];rfl,k⟩
 |tup  =>
  cases e;exact Gs (wZ (xF h)) _ s σ H Q I ⟨ρ,O,F,f,_,_,r,sl,by unfold xB mG;rw[c];rfl,k⟩
 |str l =>
  simp  [lY] at e
  split at e
  ·rename_i u b;split at b
   ·rename_i j;cases b;cases e;refine Gu (xF h) _ s σ H Q I ⟨ρ,O,F,f,cH l,_,r,sl,?_,k⟩;unfold xC;rw[c];show(if ascii l=true then _ else _)=_;rw[if_pos j]
   ·cases b
  ·cases e
 | _=>cases e
theorem Xr   (h:SE X md P e m):VIc X md P tg e (nJ m):=(rY h).imp λσ H Q q=>by
 obtain⟨ρ,O,F,Y,ds,O',r,s,e,k⟩:=q;obtain⟨d,O1,W,e⟩:=Res.bind_ok e
 cases d with
 |lst es =>
  cases e;refine⟨ρ,_,F,Y,_,_,r,s,W,λv I C u L J G=>?_⟩
  obtain⟨a,c,rfl,h1,h2⟩:∃a c,v=.ref a/\Rps X.K C u c ds/\∀(f j:Hp) (b:List Addr),Gr I C u f j b->(∃O,RlO X.K X.mg O f j b)->RdK X.K f a c:=by
   rcases G with G | ⟨a,c,Z,rfl,e,U,T,R⟩
   ·obtain⟨a,c,rfl,h1,h2⟩:=G.unL;exact⟨a,c,rfl,h2,λf j b g ⟨O,r⟩=>(h1.mono g.ff).mono r.fh⟩
   ·cases e;exact⟨a,c,rfl,R,λf j b g _=>.inl (.inl (g.fr _ _ U T rfl))⟩
  refine⟨a,rfl,⟨c,(h2 I C u Gr.refl ⟨_,J⟩).sq⟩,k _ I C u L J ⟨λi d f j b g r e=>?_,λf j b g r=>⟨c,(h2 f j b g r).sq,by rw[h1.length];exact zc _⟩⟩⟩;obtain⟨x,h3,h4⟩:=h1.get' e;have q:=h2 f j b g r;refine⟨⟨c,x,q.sq,h3⟩,λy H3 E=>?_⟩;obtain⟨rfl,E⟩:=E
  have:=E c q.sq
  rw[h3] at this;cases this;exact⟨j,Gr.refl,λ_ r=>r,h4.gr g⟩
 | _=>cases e
theorem Xu   (h:SE X md P e m):VIc X md P tg e (bF m):=λpins s σ H Q I q=>by
 obtain⟨ρ,O,F,f,x,C,r,sl,e,k⟩:=q;obtain⟨d,y,c,e⟩:=Res.bind_ok e
 cases d with
 |lst  =>
  cases e;exact Xr h _ s σ H Q I ⟨ρ,O,F,f,_,_,r,sl,by unfold nJ;rw[c];rfl,k⟩
 |tup  =>
  cases e;exact xg (Gs (wZ h)) _ s σ H Q I ⟨ρ,O,F,f,_,_,r,sl,by unfold xB mG;rw[c];rfl,k⟩
 |str l =>
  simp  [lY] at e
  split at e
  ·rename_i u b;split at b
   ·rename_i j;cases b;cases e;refine xg (Gu h) _ s σ H Q I ⟨ρ,O,F,f,cH l,_,r,sl,?_,k⟩;unfold xC;rw[c];show(if ascii l=true then _ else _)=_;rw[if_pos j]
   ·cases b
  ·cases e
 | _=>cases e
def pZ(m:M D):M (List D):=λρ O=>(m ρ O).bind λd b=>match d with
 | .lst ds=>.ok (c7 0 ds) b
 | .str l=>if ascii l=true then .ok (c7 0 (cH l)) b else .no
 | _=>.no
def Xv{elts:List Expr}{C:Nat}{c:Pos}  {p f:Pos}  (j:X.mg "enumerate" = none)(h:WE X md P a m)(u:Gl X "enumerate":=by rfl)(hs:starEach [a] X.env=[(false,eval a X.env)]:=by exact nj rfl)(b:starEach [a] X.env=(false,eval a X.env)::starEach [] X.env:=by exact bZ rfl):
  VI X md P (.Tuple elts C c) (.Call (.Name "enumerate" p) [a] [] f) (pZ m):=λpins s σ H Q I q=>by
 obtain⟨ρ,O,F,y,E,G,r,sl,e,k⟩:=q;obtain⟨d,J,x,e⟩:=Res.bind_ok e
 cases d with
 |lst  =>
  cases e;exact W9 j h u hs b _ s σ H Q I ⟨ρ,O,F,y,_,_,r,sl,by unfold Gw;rw[x];rfl,k⟩
 |str l=>exact Xa j (xF h) u hs b _ s σ H Q I ⟨ρ,O,F,y,E,G,r,sl,by unfold Gx;rw[x];exact e,k⟩
 | _=>cases e
def Xw   {K:PySem.W.Frag}
  (KX:K.In s₁.heap) (G:s₁.heap.Ns mainGlobals mg) (hb:s₁.heap.Ns builtinsNs mb) (U:∀x:Str,x≠"__name__"->mb x=bootBuiltins x) (O:s₁.heap.NoLimit) (hg:s₁.gens = #[])
  (Q:s₁.heap.get? a=some {cls:=.type "list",data:=.seq vs.toArray}) (hi:IntsAre vs ns) (Z:ns.length<=sizeLine) (hr:aV k callerA)
  (F:∀base:Heap,K.In base->base.Ns mainGlobals mg->cG P w K mg base CX k fa fd [x] sp) (y:∀(s:Shared) (u:Value),BindsTo s fd ⟨[u],[]⟩ [(x,u)])
  (T:∀H:Hp,sG H->RdK K H a (ns.map V.int)->sp [.ref a] H (λv _=>v=.bl true) λ_ _ _=>False)
  (X:∀H e f,CX [] H s₁ (λ_ _ _=>False) e f->False):
  codeAny (model P w) callerA (.call (.ref fa) ⟨[.ref a],[]⟩) (λr f=>r=.ok (.ret (.bool true))/\OldK s₁.heap f.heap/\f.os=s₁.os/\AllBare f.gens) s₁:=by
 have Y:=Ek hi;have J:=hi.length;have core:∀H:Hp,sG H->RdK K H a (ns.map V.int)->HOk P w H s₁.heap->(∀b,H b≠none->b=a)->(H a≠none->K.lookup a=none) ->
   codeAny (model P w) callerA (.call (.ref fa) ⟨[.ref a],[]⟩) (λr f=>r=.ok (.ret (.bool true))/\OldK s₁.heap f.heap/\f.os=s₁.os/\AllBare f.gens) s₁:=by
  intro H hO hS hok hA hK
  have c:∀{b:Addr}{o:Obj},s₁.heap.get? b=some o->H b=none->(jx s₁.heap H).get? b=some o:=λe n=>Oq e n
  have R:∀{b:Addr}{o:Obj}{C:Array DictEntry}{E:Nat},s₁.heap.get? b=some o->o.data=.dict C E->H b=none:=λ{b o C E} e d=>by
   cases q:H b with
   |none=>rfl
   |some u =>
    have e':b=a:=hA b (by rw[q];simp);subst e';rw[Q] at e;cases e;have d':Data.seq vs.toArray _=Data.dict C E:=d;cases d'
  have j:∀{b:Addr}{m:Str->Option Value},s₁.heap.Ns b m->(jx s₁.heap H).Ns b m:=λ{b m} ⟨o,C,E,e,d,r⟩=>⟨o,C,E,c e (R e d),d,r⟩
  have I:K.In (jx s₁.heap H):=λb o e=>c (KX b o e) (by
   cases q:H b with
   |none=>rfl
   |some u =>
    have e':b=a:=hA b (by rw[q];simp);subst e'
    rw[hK (by rw[q];simp)] at e;cases e)
  have hM:Mod K mg (jx s₁.heap H):=⟨I,j G,⟨mb,j hb,U⟩,let ⟨mc,h1,h2⟩:=O;⟨mc,j h1,h2⟩⟩;have e0:jy P w K mg (jx s₁.heap H) callerA [] s₁ H:=⟨rfl,hM,λb o e=>Ot e,Nat.le_of_eq (Oo _ _),trivial,λb hb=>absurd (show b∈([]:List Addr) from hb) (by simp),hok,.of_eq hg⟩
  refine codeAny_mono ((F _ I (j G)).run callerA [] s₁ H ⟨[.ref a],[]⟩ [.ref a] [.ref a] _ _ hr e0 (y s₁ (.ref a)) (.cons rfl .nil) (T H hO hS)) λr f h=>?_
  cases r with
  |error e=>exact(X H e f h).elim
  |ok fl =>
   cases fl with
   |next=>exact False.elim h
   |brk=>exact False.elim h
   |cont=>exact False.elim h
   |ret u =>
    obtain⟨v,H',os,bare,un,L,r',q⟩:=h;have q':v=.bl true:=q;subst q';obtain rfl:u=Value.bool true:=r';refine⟨rfl,OldK.of_keep λb o e=>?_,os,bare⟩
    cases q:H b with
    |none=>exact un.keep b o e q (by intro z;exact absurd (show b∈([]:List Addr) from z) (by simp)) (by simp)
    |some u =>
     rcases hO b with z | ⟨ob,xs,z⟩
     ·rw[q] at z;cases z
     ·have z2:=un.frzs b ob _ z;obtain⟨e1,_⟩:=hok b _ z;obtain⟨e2,_⟩:=L b _ z2;rw[e] at e1;cases e1;exact e2
 cases hk:K.lookup a with
 |some o =>
  have e:=KX a o hk;rw[Q] at e;cases e
  refine core (λ_=>none) (λ_=>.inl rfl) (.inr ⟨vs,_,hk,by rw[J];exact Z,Y⟩) (λb u z=>by have z':(none:Option HO)=some u:=z;cases z') (λb z=>absurd rfl z) λz=>absurd rfl z
 |none =>
  refine core (λb=>if b=a then some (.frz {cls:=.type "list",data:=.seq vs.toArray} (.lst (ns.map V.int))) else none) (λb=>?_) (.inl (.inr ⟨{cls:=.type "list",data:=.seq vs.toArray},if_pos rfl⟩)) (λb u z=>?_) (λb z=>?_) λ_=>hk
  ·by_cases hb:b=a
   ·exact .inr ⟨_,_,if_pos hb⟩
   ·exact .inl (if_neg hb)
  ·by_cases hb:b=a
   ·have z':=(if_pos hb).symm.trans z;cases z';subst hb;exact⟨Q,by rw[zd];exact Z,vs,_,Y,Q⟩
   ·have z':=(if_neg hb).symm.trans z;cases z'
  ·by_cases hb:b=a
   ·exact hb
   ·exact absurd (if_neg hb) z
def walk_ofR{l:PySem.W.OpenLaw}       {K:Params->PySem.W.Frag}{CX:World->CXT}{sp:World->Sp}
  (hn:l.most=some n) (hn2:n<=sizeLine) (hdf:d.params.defaults=[]) (hr:aV k callerA)
  (hY:∀(w:World) (h:Heap),YP w h->(K w.params).In h)
  (F:∀(w:World) (mg:Str->Option Value) (fa:Addr) (h:Heap),(K w.params).In h->h.Ns mainGlobals mg->mg d.name=some (.ref fa) ->
   ∃fd:FuncData,(∀(s:Shared) (u:Value),BindsTo s fd ⟨[u],[]⟩ [(x,u)]) /\
    ∀base:Heap,(K w.params).In base->base.Ns mainGlobals mg->cG l.prog w (K w.params) mg base (CX w) k fa fd [x] (sp w))
  (hsp:∀(w:World) (H:Hp) (a:Addr) (ns:List Int),ns.length<=n->sG H->RdK (K w.params) H a (ns.map V.int)->sp w [.ref a] H (λv _=>v=.bl true) λ_ _ _=>False)
  (hCX:∀(w:World) (H:Hp) (s:Shared) (e:Value) (s':Shared),CX w [] H s (λ_ _ _=>False) e s'->False):
  PySem.W.WalkO q loose XP YP l.row.toRowW d [] (λf vs=>PySem.call f vs):=by
 refine Att.attach_call hn hdf λw s₀ s₁ mg mb fa o pm cd doc a vs ns G Y ho hd hcd hmg hobj hints hlen hg=>?_
 have KX:=hY w _ Y;obtain⟨fd,hb,hF⟩:=F w mg fa _ KX G.T.g hmg
 exact Xw KX G.T.g G.T.b G.T.builtins G.T.nolimit hg hobj hints (zG hlen hn2) hr hF hb (λH hO hS=>hsp w H a ns hlen hO hS) λH e s'=>hCX w H s₁ e s'
def Xx{K:Frag}  :∀c∈([]:List Str),KC K mg c f:=λ_ h=>nomatch h
def Xy{K:Frag}    (h:KC K mg c f)(j:∀c∈m,KC K mg c f):∀d∈c::m,KC K mg d f:=λd b=>by
 rcases zl.mp b with rfl | b
 ·exact h
 ·exact j d b
def wF:Nat:=1000000
def tX(K:Frag):Sp:=λvs H Q _=>∃(a:Addr) (ns:List Int),vs=[.ref a]/\RdK K H a (ns.map V.int)/\ns.length<=63/\sG H/\∀b,Q (.bl true) b
theorem Rps.ofInts{K:Frag}  :∀ns:List Int,Rps K F as (ns.map V.int) (ns.map D.int)
 | []=>Rps.nil
 |n::ns=>Rps.cons Rp.int (Rps.ofInts ns)
def Xz{K:Frag}   (h:∀ns:List Int,ns.length<=63->∃d,c [.lst (ns.map D.int)] []=.ok (.bl true) d):∀vs H Q E,tX K vs H Q E->vSp K mg [.s] (rV K) c vs H Q E:=by
 rintro vs H Q E ⟨a,ns,rfl,hS,hl,hO,q⟩;obtain⟨d,e⟩:=h ns hl
 have r:RlO K mg [] H H []:=⟨Same.refl H,λb o e=>by
  rcases hO b with z | ⟨y,u,z⟩
  ·rw[e] at z;cases z
  ·rw[e] at z;cases z;rfl,List.nodup_nil,rfl,(λ_ z=>nomatch z),λn b o z=>by cases z⟩
 refine⟨[.lst _],[],H,[],.bl _,d,r,⟨.inl (Rp.mkL hS (Rps.ofInts ns)),trivial⟩,e,λv j C m g x f=>?_⟩;rw[Rp.unB f];exact q j
def keyOf:D->Option Key
 | .int i=>some (.inl i)
 | .str l=>some (.inr (S l))
 | _=>none
def Rp.key{K:Frag}      (h:Rp K F as v d)(e:keyOf d=some k):v=kV k:=by
 cases d with
 |int i=>cases e;exact h.unI
 |str l=>cases e;exact h.unS
 | _=>cases e
def Prs(K:Frag)(F:Hp)(b:List Addr):List (V×V)->List (D×D)->Prop
 | [],[]=>True
 |p::ps,d::ds=>Rp K F b p.1 d.1/\Rp K F b p.2 d.2/\Prs K F b ps ds
 | _,_=>False
def DPE(X:Cx)(md:List Md)(P:Pt)(q:Pos)(keys:List (Option Expr))(values:List Expr)(m:M (List (D×D))):Prop:=∃c:List (TE×TE),
 PPs X q keys values c/\∀σ H Q,(∃ρ O F d x y,RlO X.K X.mg O H F d/\SlO X.K md P ρ σ H F d/\m ρ O=.ok x y/\∀u f j b,Gr H F d f j b->RlO X.K X.mg y f j b->Prs X.K j b u x->Q u f)->wU c σ H Q
def XC:M (List (D×D)):=λ_ O=>.ok [] O
def XD(mk d:M D)(r:M (List (D×D))):M (List (D×D)):=λρ O=>(mk ρ O).bind λa m=>(d ρ m).bind λb j=>(r ρ j).bind λc f=>.ok ((a,b)::c) f
def keysOf:List (D×D)->Option (List Key)
 | []=>some []
 | (a,_)::r=>(keyOf a).bind λk=>(keysOf r).map (k :: ·)
def XH(m:M (List (D×D))):M D:=λρ O=>(m ρ O).bind λb d=>match keysOf b with
 |some c=>if c.Nodup/\b.length<=15 then .ok (.dic (b.map (·.1)) (b.map (·.2))) d else .no
 |none=>.no
def XJ{p b:Pos}(C:Can X.prog X.w X.K X.mg X.base x ps k (vSp X.K X.mg pm (rV X.K) cf))(f:aV k X.A)(q:AE X md P pm (e::es) ma)(j:Gl X x:=by rfl)(d:(x == ("__debug__":Str))=false:=by decide)(m:starEach (e::es) X.env=(false,eval e X.env)::starEach es X.env:=by exact bZ rfl)(c:(backTo b (starEach es X.env)).any (·.1)=false:=by exact cP rfl):
  VE X md P (.Call (.Name x p) (e::es) [] b) (aC cf ma):=FW kE C f q j d m c
def XM{p b:Pos}(C:Can X.prog X.w X.K X.mg X.base x ps k (vSp X.K X.mg pm (rO X.K) cf))(f:aV k X.A)(q:AE X md P pm (e::es) ma)(j:Gl X x:=by rfl)(d:(x == ("__debug__":Str))=false:=by decide)(m:starEach (e::es) X.env=(false,eval e X.env)::starEach es X.env:=by exact bZ rfl)(c:(backTo b (starEach es X.env)).any (·.1)=false:=by exact cP rfl):
  OE X md P (.Call (.Name x p) (e::es) [] b) (aC cf ma):=FW iD C f q j d m c
def XN{md:List Md}{P:Pt}{p b:Pos}(C:Can X.prog X.w X.K X.mg X.base x ps k (vSp X.K X.mg [] (rV X.K) cf))(d:aV k X.A)(f:Gl X x:=by rfl)(c:(x == ("__debug__":Str))=false:=by decide):VE X md P (.Call (.Name x p) [] [] b) (aC cf ao):=VL kE C d f c
def XQ{b apos:Pos}{pl:Sem Bool}(M:iJ X.prog X.w X.K X.mg X.base c m ps k (vSp X.K X.mg (.v::pm) (rV X.K) cf))(u:aV k X.A)(x:VE X md P o mo)(y:AE X md P pm (e::es) ma)(d:starEach (e::es) X.env=(false,eval e X.env)::starEach es X.env:=by exact bZ rfl)(j:(backTo b (starEach es X.env)).any (·.1)=false:=by exact cP rfl)
  (q:eval (.Call (.Attribute o m apos) (e::es) [] b) X.env=(do
   let ov <-eval o X.env
   standAt apos.atName
   let (f,first) <-holding [ov] (getMethod ov m pl)
   callWith b f first (backTo b (starEach (e::es) X.env)) (backToKw b (keywordEach [] X.env))):=by rfl):VE X md P (.Call (.Attribute o m apos) (e::es) [] b) (aN c m cf mo ma):=GD kE M u x y d j q
def XR{b apos:Pos}{pl:Sem Bool}(M:iJ X.prog X.w X.K X.mg X.base c m ps k (vSp X.K X.mg (.v::pm) (rO X.K) cf))(u:aV k X.A)(x:VE X md P o mo)(y:AE X md P pm (e::es) ma)(d:starEach (e::es) X.env=(false,eval e X.env)::starEach es X.env:=by exact bZ rfl)(j:(backTo b (starEach es X.env)).any (·.1)=false:=by exact cP rfl)
  (q:eval (.Call (.Attribute o m apos) (e::es) [] b) X.env=(do
   let ov <-eval o X.env
   standAt apos.atName
   let (f,first) <-holding [ov] (getMethod ov m pl)
   callWith b f first (backTo b (starEach (e::es) X.env)) (backToKw b (keywordEach [] X.env))):=by rfl):OE X md P (.Call (.Attribute o m apos) (e::es) [] b) (aN c m cf mo ma):=GD iD M u x y d j q
def XS  (M:iJ X.prog X.w X.K X.mg X.base c m ps k (vSp X.K X.mg [.v] (rV X.K) cf))(d:aV k X.A)(j:VE X md P o mo)
  (b:eval (.Call (.Attribute o m u) [] [] q) X.env=(do
   let ov <-eval o X.env
   standAt u.atName
   let (f,first) <-holding [ov] (getMethod ov m pl)
   callWith q f first (backTo q (starEach [] X.env)) (backToKw q (keywordEach [] X.env))):=by rfl):VE X md P (.Call (.Attribute o m u) [] [] q) (aN c m cf mo ao):=GF kE M d j b
def XX  (M:iJ X.prog X.w X.K X.mg X.base c m ps k (vSp X.K X.mg [.v] (rO X.K) cf))(d:aV k X.A)(j:VE X md P o mo)
  (b:eval (.Call (.Attribute o m u) [] [] q) X.env=(do
   let ov <-eval o X.env
   standAt u.atName
   let (f,first) <-holding [ov] (getMethod ov m pl)
   callWith q f first (backTo q (starEach [] X.env)) (backToKw q (keywordEach [] X.env))):=by rfl):OE X md P (.Call (.Attribute o m u) [] [] q) (aN c m cf mo ao):=GF iD M d j b
def tY:List D->List D->List D
 |d::ds,e::es=>.tup [d,e]::tY ds es
 | _,_=>[]
def GJ(ma mb:M D):M (List D):=λρ O=>(ma ρ O).bind λd c=>(mb ρ c).bind λe b=>match d,e with
 | .lst ds,.lst es=>.ok (tY ds es) b
 | _,_=>.no
noncomputable def jK(m:MS):MS:=λρ O=>match m ρ O with
 | .rt d O'=>.rt d O'
 | _=>.no
def SlO.toV{K:Frag}      (s:SlO K md P ρ σ H F as)(Q:md[i]?=some .o)(ff:Same F Z)
  (f:∀(j:Nat) (ds:List D) (a:Addr),j≠i->md[j]?=some .o->ρ[j]?=some (some (.lst ds))->σ[j]?=some (some (.ref a))->Z a=F a)
  (hv:∀d,ρ[i]?=some (some d)->∃v,σ[i]?=some (some v)/\Rp K Z as v d):SlO K (md.set i .v) P ρ σ H Z as:=by
 have R :=(zt.mp Q).1
 have back:∀(j ),(md.set i Md.v)[j]?=some Md.o->j≠i/\md[j]?=some .o:=λj e=>by
  by_cases b:j=i
  ·subst b;rw[zQ R] at e;cases e
  ·rw[zh (Ne.symm b)] at e;exact⟨b,e⟩
 refine⟨by rw[zV];exact s.len,by rw[zV];exact s.len',s.pd,λj m d c L=>?_,λj k a ds Y h1 h2 h3 h4 X W=>s.inj j k a ds Y (back j h1).2 (back k h2).2 h3 h4 X W,λx hx=>?_⟩
 ·by_cases b:j=i
  ·subst b;rw[zQ R] at c;cases c;exact hv d L
  ·rw[zh (Ne.symm b)] at c;obtain⟨v,q,t⟩:=s.sl j m d c L;refine⟨v,q,?_⟩
   cases m with
   |v=>exact Rp.mono ff (λ_ _ z=>z) _ t
   |s =>
    rcases t with t | ⟨a,u,ds,t1,t2,G,E,C,y⟩
    ·exact .inl (Rp.mono ff (λ_ _ z=>z) _ t)
    ·exact .inr ⟨a,u,ds,t1,t2,G,E,C,Rps.mono ff (λ_ _ z=>z) _ y⟩
   |o =>
    rcases t with⟨I,t⟩ | ⟨a,u,ds,rfl,rfl,G,I,E,C,y⟩
    ·exact .inl ⟨I,Rp.mono ff (λ_ _ z=>z) _ t⟩
    ·exact .inr ⟨a,u,ds,rfl,rfl,G,by rw[f j ds a b c L q];exact I,E,C,Rps.mono ff (λ_ _ z=>z) _ y⟩
 ·obtain⟨J,U,T⟩:=s.pin x hx
  have O:i≠x.1:=λz=>by rw[<-z,Q] at J;cases J
  exact⟨by rw[zh O];exact J,U,T⟩
def X3{K:Frag}    (x:md[i]?=some .o){D:Ends}   (q:tMS K mg md P R (jK m) D σ H):tMS K mg (md.set i .v) P R m D σ H:=by
 obtain⟨ρ,O,F,C,r,s,k⟩:=q;unfold jK at k
 cases e:m ρ O with
 |rt  =>
  rw[e] at k
  by_cases I:∃y,ρ[i]?=some (some (.lst y))
  ·obtain⟨y,f⟩:=I;obtain⟨a,E,h1,h2,h3,h4,Y,X⟩:=s.own x f
   have ff:Same F (upd F a (.lst E)):=λb u q=>by rw[aH (bV q h3)];exact q
   have Z:GrS P H F C H _ C:=⟨λc _ p _ _ _=>aH λz=>Y (by rw[<-z];exact p),ff,⟨[],by simp⟩,λ_ _ _ h _ _=>h,λ_ h=>h,λ_ _ _ h=>h⟩;refine⟨ρ,O,upd F a _,C,r.frz h2 h3 h4 rfl,s.toV x ff (λj es b W T Q G=>?_) λJ d=>?_,?_⟩
   ·refine aH λz=>W ?_
    rw[z] at G;exact s.inj j i a es y T x Q f G h1
   ·rw[f] at d;cases d;exact⟨_,h1,Rp.mkL (.inl (.inl bz)) (Rps.mono ff (λ_ _ z=>z) _ X)⟩
   ·rw[e]
    exact λv H' F' as' g L U=>k v H' F' _ (Z.trans g) L U
  ·refine⟨ρ,O,F,C,r,s.toV x (Same.refl F) (λ_ _ _ _ _ _ _=>rfl) λJ d=>?_,by rw[e];exact k⟩;obtain⟨v,h1,h2⟩:=s.sl i .o J x d
   rcases h2 with⟨_,h2⟩ | ⟨a,E,y,_,rfl,_⟩
   ·exact⟨v,h1,h2⟩
   ·exact absurd ⟨y,d⟩ I
 | _=>rw[e] at k;exact False.elim k
def xG(i:Nat){st:Stmt}  (b:md[i]?=some .o)(h:VS X (md.set i .v) P R st m):VS X md P R st (jK m):=h.imp λ_ _ _=>X3 b
noncomputable def mMl(m:M D):M D:=λρ O=>(m ρ O).bind λd b=>match d with
 | .lst ds=>.ok (.ob b.length) (b++[.ml ds])
 |d=>.ok d b
def xH  :∀(n:Nat) (c:Addr),b[n]?=some c->(b++[a])[n]?=some c:=λn c h=>by
 rw[zD (zt.mp h).1];exact h
def RlO.snocMl{K:Frag}        (r:RlO K mg O H F x)(q:H a=some (.lst xs))(u:F a=none)(m:a∉x)(hx:Rps K F x xs ds):RlO K mg (O++[.ml ds]) H F (x++[a]):=by
 refine⟨r.fh,r.fd,jo.mpr ⟨r.nd,by simp,λc b d hd=>by rw[zm.mp hd];exact λz=>m (z ▸ b)⟩,by rw[zf,zf,r.len];rfl,λc b=>?_,λn c o b f=>?_⟩
 ·rcases zB.mp b with b | b
  ·exact r.fa c b
  ·rw[zm.mp b];exact u
 ·by_cases j:n<x.length
  ·rw[zD j] at b;rw[zD (by rw[<-r.len];exact j)] at f;exact(r.ob n c o b f).keep rfl (Same.refl F) xH
  ·have hn':n=x.length:=by
    have:=(zt.mp b).1
    rw[zf,zM] at this;omega
   subst hn';rw[zK (zc _),Nat.sub_self] at b;rw[r.len,zK (zc _),Nat.sub_self] at f;cases b;cases f;exact⟨xs,q,Rps.mono (Same.refl F) xH _ hx⟩
def X4   (h:OE X md P e m):VE X md P e (mMl m):=h.imp λσ H Q q=>by
 obtain⟨ρ,O,F,Z,d,O',r,s,e,k⟩:=q;obtain⟨x,O1,Y,e⟩:=Res.bind_ok e;refine⟨ρ,_,F,Z,_,_,r,s,Y,λv E G as1 b j u=>?_⟩
 rcases u with⟨I,u⟩ | ⟨a,xs,ds,rfl,rfl,W,U,T,R,L⟩
 ·cases x with
  |lst =>cases I
  | _=>cases e;exact k v E G _ b j u
 ·cases e;obtain⟨y,J,C⟩:=b.nw;refine k _ E G _ ⟨b.fz,b.ff,⟨y++[a],by rw[J,zH],λc f=>?_⟩,b.fr,b.dm,b.kz⟩ (j.snocMl W U T L) (Rp.mkO ?_)
  ·rcases zB.mp f with f | f
   ·exact C c f
   ·rw[zm.mp f];exact R
  ·rw[<-j.len,zK (zc _),Nat.sub_self];rfl
def p6     (f:a∈m)(b:H a=some h)  (d:∀o u,h≠.frz o u:=by intro _ _ z;cases z):Gr H F m (upd H a o) F m :=
 ⟨λ_ _ _ _ _=>rfl,Same.refl F,⟨[],by simp⟩,λc u e hn _=>by rw[aH λz=>hn (by rw[z];exact f)];exact e,λc e=>by
  by_cases h:c=a
  ·subst h;rw[bz] at e;cases e
  ·rwa [aH h] at e,λc j u e=>by rw[aH λz=>by rw[z,b] at e;cases e;exact d _ _ rfl];exact e⟩
def RlO.mutO{K:Frag}         (r:RlO K mg O H F I)(d:I[n]?=some a)(hx:Rps K F I xs ds):RlO K mg (O.set n (.ml ds)) (upd H a (.lst xs)) F I:=by
 have C:=zL d;refine⟨λc u e=>?_,r.fd,r.nd,by rw[zV];exact r.len,r.fa,λm c o f b=>?_⟩
 ·rw[aH (λz=>by rw[z,r.fa a C] at e;cases e)];exact r.fh c u e
 ·by_cases j:m=n
  ·subst j;rw[d] at f;cases f
   have q:m<O.length:=by rw[<-r.len];exact(zt.mp d).1
   rw[zQ q] at b;cases b;exact⟨xs,bz,hx⟩
  ·rw[zh (Ne.symm j)] at b
   refine(r.ob m c o f b).keep (aH λz=>j ?_) (Same.refl F) λ_ _ h=>h
   obtain⟨E,x⟩:=zt.mp f;obtain⟨G,y⟩:=zt.mp d;exact(List.getElem_inj r.nd).mp (x.trans (z.trans y.symm))
def RlO.ml{K:Frag}     {n:Nat}   (r:RlO K mg O H F d)(b:d[n]?=some a)(c:O[n]?=some (.ml ds)):∃xs,H a=some (.lst xs)/\Rps K F d xs ds:=r.ob n a _ b c
noncomputable def gG(mo m:M D):MS:=λρ O=>match mo ρ O with
 | .ok (.ob n) O1=>match O1[n]? with
  |some (.ml _)=>match m ρ O1 with
   | .ok d O2=>match O2[n]? with
    |some (.ml ds)=>if ds.length<1000000 then .nx ρ (O2.set n (.ml (ds++[d]))) else .no
    | _=>.no
   | _=>.no
  | _=>.no
 | _=>.no
def X5{R:RR}  {apos b u:Pos}  (ho:VE X md P o mo)(h:VE X md P e m)
  (j:attributeBase o "append" X.env (eval o X.env)=eval o X.env:=by rfl)
  (C:((backTo b (starEach [e] X.env)).all (λx=>!x.1)&&(backToKw b (keywordEach [] X.env)).all (λx=>x.1.isSome)&&decide ([e].length+([]:List Keyword).length+(if([]:List Keyword).isEmpty then 0 else 1)<30))=true:=by rfl)
  (f:(apos.endLine == b.line)=true:=by rfl) (hs:starEach [e] X.env=(false,eval e X.env)::starEach [] X.env:=by exact bZ rfl) (E:(backTo b (starEach [] X.env)).any (·.1)=false:=by exact cP rfl)
  (hsw:swapsWith (.Call (.Attribute o "append" apos) [e] [] b) none u.line X.env=pure false:=by rfl):
  VS X md P R (.Expr (.Call (.Attribute o "append" apos) [e] [] b) u) (gG mo m):=
 (mY (lR PySem.F.plainAttrs_list PySem.F.slot_list_append PySem.F.type_list_append Ej ho (fO h gh hs) j C f hs)).imp λD σ H q=>by
  obtain⟨ρ,O,F,as,r,s,k⟩:=q;unfold gG at k;split at k
  ·rename_i n O1 e1;split at k
   ·rename_i ds0 e2;split at k
    ·rename_i d O2 e3;split at k
     ·rename_i ds e4;split at k
      ·rename_i hz;refine⟨ρ,O,F,as,_,_,r,s,e1,λv H1 F1 Q I Z hv=>?_⟩;obtain⟨a,rfl,ha⟩:=Rp.unO hv;obtain⟨L,x1,x2⟩:=Z.ml ha e2;refine⟨.inl ⟨rfl,L,.inl (.inl x1)⟩,ρ,O1,F1,Q,d,O2,Z,s.step I,e3,λy H2 J as2 G Y hy=>?_⟩;have c:=G.at_ n a ha;obtain⟨W,U,T⟩:=Y.ml c e4;have g3:Gr H2 J _ (upd H2 a (.lst (W++[y]))) J _:=p6 (zL c) U;exact⟨a,W,y,rfl,rfl,U,by rw[T.length];exact zI hz (by decide),k σ _ J _ ((I.trans G).trans g3).toS (Y.mutO c (T.snoc hy)) (s.step ((I.trans G).trans g3))⟩
      ·exact False.elim k
     ·exact False.elim k
    ·exact False.elim k
   ·exact False.elim k
  ·exact False.elim k
noncomputable def iK(n:Nat)(all:List D)(g:MG)(b:MS):List D->MS
 | [],ρ,O=>match O[n]? with
  |some (.ml es)=>if es.length=all.length then .nx ρ O else .no
  | _=>.no
 |d::ds,ρ,O=>match O[n]? with
  |some (.ml es)=>match es[all.length - (ds.length+1)]? with
   |some f=>match g f ρ with
    |none=>.no
    |some c=>match b c O with
     | .nx ρ2 O2=>iK n all g b ds ρ2 O2
     | .ct ρ2 O2=>iK n all g b ds ρ2 O2
     | .bk ρ2 O2=>.nx ρ2 O2
     |r=>r
   |none=>.no
  | _=>.no
def p7(m:M D)(g:MG)(b:MS):MS:=λρ O=>match m ρ O with
 | .ok (.ob n) O'=>match O'[n]? with
  |some (.ml ds)=>iK n ds g b ds ρ O'
  | _=>.no
 | .ok (.lst ds) O'=>bB g b ds ρ O'
 | _=>.no
def X6{K:Frag}       {D:Ends}      (r:RlO K mg O H F as)(s:SlO K md P ρ σ H F as)(e:m ρ O=.ok (.ob n) O1)(e2:O1[n]?=some (.ml ds))
  (k:gm K mg md P R D H F as (iK n ds g b ds ρ O1)):v9 (v8 K (tM K mg md P (rW K P) m)) (tMG K mg md P g) (tMS K mg md P R b) D σ H:=by
 refine⟨ρ,O,F,as,_,_,r,s,e,λv H1 F1 X g1 r1 hv=>?_⟩
 have hv':Rp K F1 X v (.ob n):=by
  rcases hv with hv | ⟨a,G,ds',_,z,_⟩
  ·exact hv
  ·cases z
 obtain⟨a,rfl,ha⟩:=Rp.unO hv';obtain⟨xs0,x1,x2⟩:=r1.ml ha e2;have k1:=jF g1.toS k;refine⟨a,rfl,⟨xs0,.inl (.inl x1)⟩,λi m L u=>m=ds.length - i/\i<=ds.length/\∃d I q c,GrS P H1 F1 _ u q c/\RlO K mg I u q c/\SlO K md P d L u q c/\gm K mg md P R D u q c (iK n ds g b (ds.drop i) d I),⟨ds.length,by simp,Nat.zero_le _,ρ,O1,F1,X,GrS.refl,r1,s.step g1,by exact k1⟩,?_⟩;rintro i t L u ⟨rfl,hi,d,I,q,c,g',r',s',k'⟩;have ha':=g'.at_ n a ha
 by_cases W:i<ds.length
 ·rw[List.drop_eq_getElem_cons W] at k';unfold iK at k';split at k'
  ·rename_i es ee;obtain⟨G,y1,y2⟩:=r'.ml ha' ee
   have Y:ds.length - ((ds.drop (i+1)).length+1)=i:=by rw[List.length_drop];omega
   rw[Y] at k';split at k'
   ·rename_i d' ed;obtain⟨x,hx,rx⟩:=y2.get' ed;have U:SqL K u a G:=.inl (.inl y1);refine .inr ⟨⟨G,x,U,hx⟩,λJ f=>∃C O2 j E,GrS P H1 F1 _ f j _/\RlO K mg O2 f j _/\SlO K md P _ _ f j _/\gm K mg md P R D f j _ _,λJ f h2=>⟨ds.length - (i+1),by omega,rfl,W,h2⟩,λx' H3 y=>?_⟩;obtain⟨rfl,hy⟩:=y;have T:=hy G U;rw[hx] at T;cases T;split at k'
    ·exact False.elim k'
    ·rename_i Q eg;refine⟨d,I,q,c,d',Q,r',s',rx,eg,λσ4 s4=>?_⟩;refine⟨Q,I,q,c,r',s4,?_⟩
     cases eb:b _ I with
     | nx C O2
     |ct C O2 =>
      rw[eb] at k'
      exact λJ f j E Z r2 s2=>⟨C,O2,j,E,g'.trans Z,r2,s2,jF Z k'⟩
     | bk
     |rt  =>
      rw[eb] at k'
      exact λv f j E Z r2 s2=>k' v f j _ Z r2 s2
     | ex
     |no=>rw[eb] at k';exact False.elim k'
   ·exact False.elim k'
  ·exact False.elim k'
 ·have hi':i=ds.length:=by omega
  subst hi';rw[List.drop_length] at k';unfold iK at k';split at k'
  ·rename_i es ee;split at k'
   ·rename_i hl;obtain⟨G,y1,y2⟩:=r'.ml ha' ee;exact .inl ⟨⟨G,.inl (.inl y1),by rw[y2.length,hl];exact zc _⟩,k' _ u q _ GrS.refl r' s'⟩
   ·exact False.elim k'
  ·exact False.elim k'
def X7   {d:Pos}    (y:X.calm=true)(j:WE X md P L m)(u:VG X md P Q g)(hb:VSs X md P R body b)(f:PassesOwn (model X.prog X.w) X.A X.env X.xe:=by exact PassesOwn.never)
  (hs:∀x,foldedSetIterable L X.env x=pure x:=by intro _;rfl):VS X md P R (.For Q L body [] d) (p7 m g b):=λpins s σ H D I q=>by
 obtain⟨ρ,O,F,J,r,sl,k⟩:=q;unfold p7 at k;split at k
 ·rename_i n E c;split at k
  ·rename_i C G;exact Dl f y (rY j) u hb hs _ s σ H D I (X6 r sl c G k)
  ·exact False.elim k
 ·rename_i C E c;refine FJ y (Gq j) u hb f hs _ s σ H D I ⟨ρ,O,F,J,r,sl,?_⟩;unfold cA
  have:nJ m ρ O=.ok C E:=by unfold nJ;rw[c];rfl
  rw[this];exact k
 ·exact False.elim k
def tZ(K:Frag)(mg:Str->Option Value)(x:Str)(ls:List (List Nat)):Prop:=∃(a:Addr) (o:Obj) (b:Array Value) (n:Nat),mg x=some (.ref a)/\K.lookup a=some o/\o.cls=.type "tuple"/\o.data=.seq b n/\b.size<=sizeLine/\aF (ls.map λl=>V.str (S l)) b.toList
theorem Rps.texts{K:Frag}  :∀ls:List (List Nat),Rps K F as (ls.map λl=>V.str (S l)) (ls.map D.str)
 | []=>Rps.nil
 |l::ls=>Rps.cons Rp.str (Rps.texts ls)
def X8  {md:List Md}{P:Pt}   {b:Pos}(h:tZ X.K X.mg x ls)(u:Gl X x:=by rfl)(f:(x == ("__debug__":Str))=false:=by decide):VE X md P (.Name x b) (mC (.tup (ls.map D.str))):=by
 obtain⟨a,o,c,n,j,m,h1,h2,h3,h4⟩:=h
 refine(Ez (v:=.ref a) ⟨_,j,rfl⟩ u f).imp λσ H Q q=>?_
 obtain⟨ρ,O,F,y,d,C,r,s,e,k⟩:=q;cases e;exact k _ H F y Gr.refl r (Rp.mkT (.inr ⟨o,c,n,m,h1,h2,h3,h4⟩) (Rps.texts ls))
theorem xJ{α:Type}{p:List α->Prop}(h:p []):∀us:List α,us.length=0->p us:=λus e=>by
 cases us with
 |nil=>exact h
 |cons a b=>cases e
theorem kZ{α:Type}{p:List α->Prop}  (h:∀a,∀us:List α,us.length=n->p (a::us)):∀us:List α,us.length=n+1->p us:=λus e=>by
 cases us with
 |nil=>cases e
 |cons a b=>exact h a b (Nat.succ.inj e)
def RlO.snocO{K:Frag}   (r:RlO K mg O H F y)(x:F a=none)(q:a∉y)(m:ObR K mg H F (y++[a]) a o):RlO K mg (O++[o]) H F (y++[a]):=by
 refine⟨r.fh,r.fd,jo.mpr ⟨r.nd,by simp,λc b d hd=>by rw[zm.mp hd];exact λz=>q (z ▸ b)⟩,by rw[zf,zf,r.len];rfl,λc b=>?_,λn c u b f=>?_⟩
 ·rcases zB.mp b with b | b
  ·exact r.fa c b
  ·rw[zm.mp b];exact x
 ·by_cases j:n<y.length
  ·rw[zD j] at b;rw[zD (by rw[<-r.len];exact j)] at f;exact(r.ob n c u b f).keep rfl (Same.refl F) xH
  ·have hn':n=y.length:=by
    have:=(zt.mp b).1
    rw[zf,zM] at this;omega
   subst hn';rw[zK (zc _),Nat.sub_self] at b;rw[r.len,zK (zc _),Nat.sub_self] at f;cases b;cases f;exact m
def RlO.mutG{K:Frag}     (r:RlO K mg O H F I)(d:I[n]?=some a)(hx:ObR K mg (upd H a h) F I a o):RlO K mg (O.set n o) (upd H a h) F I:=by
 have C:=zL d;refine⟨λc u e=>?_,r.fd,r.nd,by rw[zV];exact r.len,r.fa,λm c u f b=>?_⟩
 ·rw[aH (λz=>by rw[z,r.fa a C] at e;cases e)];exact r.fh c u e
 ·by_cases j:m=n
  ·subst j;rw[d] at f;cases f
   have q:m<O.length:=by rw[<-r.len];exact(zt.mp d).1
   rw[zQ q] at b;cases b;exact hx
  ·rw[zh (Ne.symm j)] at b
   refine(r.ob m c u f b).keep (aH λz=>j ?_) (Same.refl F) λ_ _ h=>h
   obtain⟨E,x⟩:=zt.mp f;obtain⟨G,y⟩:=zt.mp d;exact(List.getElem_inj r.nd).mp (x.trans (z.trans y.symm))
def RlO.unF{K:Frag}  (r:RlO K mg O H F as)(b:H p=none):F p=none:=by
 cases e:F p with
 |none=>rfl
 |some o=>rw[r.fh p o e] at b;cases b
def Gr.snoc   (b:H p=none):Gr H F d (upd H p o) F (d++[p]):=
 ⟨λ_ _ _ _ _=>rfl,Same.refl F,⟨[p],rfl,λa h=>by rw[zm.mp h];exact b⟩,λa u e _ _=>by rw[aH (bV e b)];exact e,λa e=>by
  by_cases h:a=p
  ·subst h;exact b
  ·rwa [aH h] at e,λa c u e=>by rw[aH (bV e b)];exact e⟩
def cW(O:au):Nat->D->D
 | 0,d=>d
 |n+1,.ob i=>match O[i]? with
  |some (.ml ds)=>.lst (ds.map (cW O n))
  | _=>.ob i
 |n+1,.lst ds=>.lst (ds.map (cW O n))
 |n+1,.tup ds=>.tup (ds.map (cW O n))
 | _+1,d=>d
theorem p8{K:Frag}{O:au}{H F:Hp}{c:List Addr}{n:Nat}(b:∀(d:D) (v:V),Rp K F c v d->d9 (cW O n d)=true->Rep K H v (toP (cW O n d))):∀(ds:List D) (xs:List V),Rps K F c xs ds->jH (ds.map (cW O n))=true->bR K H xs (gQ (ds.map (cW O n)))
 | [],xs,h,_=>by rw[h.un0];exact bR.nil
 |d::ds,xs,h,hp=>by
  obtain⟨x,r,rfl,h1,h2⟩:=h.un;rw[zg,jH,zx] at hp;exact bR.cons (b d x h1 hp.1) (p8 b ds r h2 hp.2)
theorem qb{K:Frag}{mg:Str->Option Value}{O:au}{H F:Hp}{f:List Addr}(r:RlO K mg O H F f):∀(n:Nat) (d:D) (v:V),Rp K F f v d->d9 (cW O n d)=true->Rep K H v (toP (cW O n d))
 | 0,d,v,h,hp=>Lk.rep (Or.inl h) r.fh hp
 |n+1,.ob i,v,h,hp=>by
  unfold cW at hp ⊢;split at hp
  ·rename_i c e;obtain⟨a,rfl,j⟩:=h.unO;obtain⟨b,h1,h2⟩:=r.ml j e;exact⟨a,b,rfl,.inl (.inl h1),p8 (qb r n) c b h2 hp⟩
  ·cases hp
 |n+1,.lst c,v,h,hp=>by
  obtain⟨a,b,rfl,h1,h2⟩:=h.unL;exact⟨a,b,rfl,(h1.mono r.fh).sq,p8 (qb r n) c b h2 hp⟩
 |n+1,.tup c,v,h,hp=>by
  obtain⟨a,b,rfl,h1,h2⟩:=h.unT;exact⟨a,b,rfl,Same.seqT r.fh h1,p8 (qb r n) c b h2 hp⟩
 |n+1,.non,v,h,hp=>Lk.rep (Or.inl h) r.fh hp
 |n+1,.bl _,v,h,hp=>Lk.rep (Or.inl h) r.fh hp
 |n+1,.int _,v,h,hp=>Lk.rep (Or.inl h) r.fh hp
 |n+1,.str _,v,h,hp=>Lk.rep (Or.inl h) r.fh hp
 |n+1,.dic _ _,v,h,hp=>Lk.rep (Or.inl h) r.fh hp
def GK{K:Frag}(r:RlO K mg O H F u)    (h:Sv K H F u v d)(c:d9 (cW O n d)=true):Rep K H v (toP (cW O n d)):=by
 rcases h with h | ⟨a,b,m,rfl,rfl,j,q,f⟩
 ·exact qb r n d v h c
 ·cases n with
  |zero=>exact Lk.rep (Or.inr ⟨a,b,m,rfl,rfl,j,f⟩) r.fh c
  |succ n =>
   exact⟨a,b,rfl,.inl (.inl j),p8 (qb r n) m b f c⟩
def qd(b:Bool)(n:Nat)(ma mb:M D):M D:=λρ O=>(ma ρ O).bind λx c=>(mb ρ c).bind λy O2 =>
 if(okE (cW O2 n x)&&okE (cW O2 n y))=true then .ok (.bl (if b then !iI (cW O2 n x) (cW O2 n y) else iI (cW O2 n x) (cW O2 n y))) O2 else .no
def Yb{K:Frag}        (h:tM K mg md P (rO K) (qd neg n ma mb) σ H Q):tOp (wX K neg) (tM K mg md P (rS K) ma) (tM K mg md P (rS K) mb) σ H Q:=by
 obtain⟨ρ,O,F,R,d,O',r,sl,e,k⟩:=h;obtain⟨x,Z,L,e⟩:=Res.bind_ok e;obtain⟨y,Y,J,e⟩:=Res.bind_ok e;split at e
 ·rename_i m;cases e;rw[zx] at m;obtain⟨c,b⟩:=m;unfold okE at c b;rw[zx] at c b;refine⟨ρ,_,F,R,_,_,r,sl,L,λv H1 W j C E G=>?_⟩;refine⟨ρ,_,W,j,_,_,E,sl.step C,J,λu T U X q f I=>?_⟩;exact⟨_,_,GK f (Sv.gr G q) c.1,GK f I b.1,c.2,b.2,k _ T U _ (C.trans q) f (.inl ⟨rfl,Rp.bl⟩)⟩
 ·cases e
def Yc(n:Nat)  (b:aV k X.A)    (c:SE X md P f ma)(hb:SE X md P d mb):TsE X md P (.Compare f [.NotEq] [d] j) (az (qd true n ma mb)):=
 (Dt (Ey b) c hb (m5 _)).imp λσ H Q h=>by
  have q:=nC h;exact Yb q
end L2
namespace L2
open PySem PySem.Spec PyProof.Rows PySem.W PySem.Calls
def Keeps(s:Shared)(a:Addr)(h':Heap):Prop:=∀b o,b≠a->s.heap.get? b=some o->h'.get? b=some o
structure GP(mg:Str->Option Value):Prop extends Blt mg where
 sorted_:mg "sorted" = none
end L2
namespace L2
open PySem PySem.Spec PyProof.Rows
abbrev Yd(h:Heap)(z TI TO T:Addr)(b:Bool):Prop :=
 h.get? z=some {cls:=.type "zip",dict:=none,data:=.fields #[rawInt T,.bool b,.bool false,.ref TI,.ref TO],slots:=#[]}
structure ZS(base:Nat)(h:Heap)(z TI TO i1 i2 l1 l2 S:Addr)(xs ys acc:Array Value)(c i:Nat):Prop where
 zi:(IsZip h z TI TO .none/\∃a b,IsPair h TO a b)\/∃T b o,Yd h z TI TO T b/\h.get? T=some o/\T∉[z,TO,i1,i2,S]
 ti:IsPair h TI (.ref i1) (.ref i2)
 it1:h.IsListIter i1 l1 i
 it2:h.IsListIter i2 l2 i
 a1:h.IsList l1 xs
 a2:h.IsList l2 ys
 ls:h.get? S=some {cls:=.type "list",dict:=none,data:=.seq acc c,slots:=#[]}
 sz:acc.size=i
 tl:TO<h.objs.size
 nd:acc.toList.Nodup
 ts:∀(j:Nat) (v:Value),acc[j]?=some v->∃(T:Addr) (x y:Value),v=Value.ref T/\xs[j]?=some x/\ys[j]?=some y/\IsPair h T x y/\T∉[z,TO,i1,i2,S]/\base<=T
end L2
namespace L2
open PySem PySem.Spec PyProof.Rows PySem.W
end L2
namespace L2
open PySem PySem.Spec PyProof.Rows
def Ye(i:Int)(h:0<=i):Str.ofString (toString i)=S ((Nat.toDigits 10 i.toNat).map Char.toNat):=by
 obtain⟨m,rfl⟩:∃m:Nat,i=(m:Int):=⟨i.toNat,(Int.toNat_of_nonneg h).symm⟩;rw[Int.toNat_natCast,<-PySem.W.KIN.signs_num m,TJ]
def xK:List D->Option D
 | [.int i]=>if 0<=i/\i<1000000000 then some (.str ((Nat.toDigits 10 i.toNat).map Char.toNat)) else none
 | _=>none
def Yg:kO X (.type "str") xK:=by
 intro pins s σ H q c Q I f h;obtain⟨O,F,x,u,d,r,b,e,k⟩:=h;unfold xK at e;split at e
 ·rename_i i;split at e
  ·rename_i m;obtain⟨v,rfl,j⟩:=b.one;cases e;cases(j.rp rfl).unI;refine Q7 pins s σ H _ c Q I f ⟨i,rfl,shown (N:=2 ^ 1920) (by omega) (by omega) (Int.le_refl _),?_⟩;have z:=Ye i m.1;refine bT (v:=.str (Str.ofString (toString i))) r k rfl ?_;rw[z];exact Rp.str
  ·cases e
 ·cases e
structure QEn(mg:Str->Option Value):Prop extends GP mg where
 reversed_:mg "reversed" = none
end L2
namespace L2
open PySem PySem.Spec PyProof.Rows PySem.W
def mdI:Option Int->List Int->Option Int
 |b,[]=>b
 |none,n::r=>mdI (some n) r
 |some m,n::r=>mdI (some (if n<m then n else m)) r
def MdV(d v:Value):Option Int->Prop
 |none=>v=d
 |some m=>∃t,v=.int m t
def MdB(bs:Array Value):Option Int->Prop
 |none=>bs = #[]
 |some m=>∃t,bs = #[.int m t,.int m t]
theorem Yh{d:String}    {s:Shared}  (u:builtinKind d=none)(q:plainId d=true)(x:entryFor table d=some b)(m:argsOk d ⟨as,kw⟩)
  (c0:wpAny (model prog w) A.in1 (b ⟨as,kw⟩) (λfin j=>match fin with
   | .done f=>(match(Except.ok f:Result) with | .ok (.ret v)=>Q v j | .ok _=>False | .error e=>E e j)
   | .again c=>c.quiet=true/\codeAny (model prog w) A c (λr j=>match r with | .ok (.ret v)=>Q v j | .ok _=>False | .error e=>E e j) j) E s):
  wpAny (model prog w) A (call (.builtin d) as kw) Q E s:=by
 refine wpAny_call (codeAny_call_builtin q x ?_);simp  [checkBuiltinCall,u]
 cases g0:Manifest.signature? d with
 |none=>exact zb c0
 |some sg =>
  simp  [argsOk,g0] at m
  have z :=m;show wpAny _ _ (Bind.checkArgs d sg _) _ _ s;rw[z];exact zb c0
def Yi     (q:Q (.bool (decide (n<m))) s):wpAny (model prog w) A (richCompare .Lt (.int n t) (.int m u)) Q E s :=
 CmpOf.ints_lt (λi=>if i=0 then n else m) (λ_ _ z=>z) 0 1 _ _ s Q E ⟨t,rfl⟩ ⟨u,rfl⟩ q
def Yj{w:World}{A:Around}{R:Result->Shared->Prop}{l G S:Addr}{j:List Value}{d:Value}(hh:A.in1.handled=none)(n1:l≠G)(n2:S≠G)(n3:S≠l):
  ∀(us:List Value) (ns:List Int) (pre:List Value) (b:Option Int) (bs:Array Value) (s:Shared) (c:Nat),j=pre++us->aF (ns.map V.int) us->s.heap.IsListIter G l pre.length->s.heap.IsList l j.toArray->MdB bs b ->
   s.heap.get? S=some {cls:=.type "list",dict:=none,data:=.seq bs c,slots:=#[]} ->
   (∀v h' tk,MdV d v (mdI b ns)->(∀x o,x≠G->x≠S->s.heap.get? x=some o->h'.get? x=some o)->R (.ok (.ret v)) {s with heap:=h',toks:=tk}) ->
   codeAny (model prog w) A (.builtin "min.loop" ⟨[.ref G,.none,.ref S],[("default",d)]⟩) R s:=by
 have W:=Walks.list (prog:=prog) (w:=w) hh G l n1 j.toArray
 have nm:(toString "min" ++ toString ".loop":String) = "min.loop":=by decide
 have nS:S∉[G]:=λz=>n2 (zm.mp z)
 have ni:∀x:Addr,x≠G->x∉[G]:=λx z y=>z (zm.mp y)
 intro us
 induction us with
 |nil =>
  intro ns pre b bs s c e Z it hl Q T hR
  have ens:ns=[]:=by
   cases ns with
   |nil=>rfl
   |cons=>cases Z
  subst ens
  have el:pre.length=j.toArray.size:=by rw[e];simp
  rw[el] at it;refine zZ PySem.F.entry_min_loop ?_;rw[Around.under_plainId PySem.F.plain_min_loop _];show wpAny _ A.in1 (seqItems? (.ref S) >>= _) _ _ s;refine za (wpAny_seqItems T rfl ?_);show wpAny _ A.in1 (tryCatch (pyNext (.ref G)) _ >>= _) _ _ s;refine za (wpAny_tryCatch (W.done s _ _ ⟨it,hl⟩ λh1 tk kp=>?_));have E:=kp S _ nS T
  cases b with
  |none =>
   have C:bs = #[]:=Q;subst C;show wpAny _ A.in1 (rule _ >>= _) _ _ _;refine za (zY ?_);exact zb (hR d h1 tk rfl λx o P Y q=>kp x o (ni x P) q)
  |some m =>
   obtain⟨t,C⟩:=Q;subst C;show wpAny _ A.in1 (updateSeq S (λ_=>#[]) >>= _) _ _ _;refine za ?_;refine js E rfl (za (wpAny_letGo (zb ?_)))
   exact hR (.int m t) _ tk ⟨t,rfl⟩ λx o P Y q=>(jp _ _ (Ne.symm Y)).trans (kp x o (ni x P) q)
 |cons u us ih =>
  intro ns pre b bs s c e Z it hl Q T hR
  cases ns with
  |nil=>cases Z
  |cons n ns =>
   have rv':aF (V.int n::ns.map V.int) (u::us):=Z
   obtain⟨ru,rus⟩:RelV (.int n) u/\aF (ns.map V.int) us:=by
    cases rv' with
    |cons a b=>exact⟨a,b⟩
   obtain⟨I,rfl⟩:=ru
   have el:pre.length<j.toArray.size:=by rw[e];simp
   have e':j=(pre++[Value.int n I])++us:=by rw[e];simp
   have eg:j.toArray[pre.length]?=some (Value.int n I):=by rw[e];simp
   refine zZ PySem.F.entry_min_loop ?_;rw[Around.under_plainId PySem.F.plain_min_loop _];show wpAny _ A.in1 (seqItems? (.ref S) >>= _) _ _ s;refine za (wpAny_seqItems T rfl ?_);show wpAny _ A.in1 (tryCatch (pyNext (.ref G)) _ >>= _) _ _ s;refine za (wpAny_tryCatch (W.item pre.length s _ _ el ⟨it,hl⟩ λv h1 tk hv st kp=>?_));rw[eg] at hv;cases hv;have E:=kp S _ nS T
   have O:∀(h2:Heap) (y:Addr) (o:Obj),y≠S->h2.get? y=some o->∀f,(h2.update S f).get? y=some o:=λh2 y o z q f=>(jp _ _ (Ne.symm z)).trans q
   have go:∀(b2:Option Int) (L:Array Value) (h2:Heap) (U:Nat) (c2:Nat),MdB L b2->mdI b2 ns=mdI b (n::ns)->h2.get? S=some {cls:=.type "list",dict:=none,data:=.seq L c2,slots:=#[]} ->
     (∀x o,x≠S->h1.get? x=some o->h2.get? x=some o)->codeAny (model prog w) A (.builtin "min.loop" ⟨[.ref G,.none,.ref S],[("default",d)]⟩) R {s with heap:=h2,toks:=U}:=λb2 L h2 U c2 q1 q2 q3 q4=>by
    have X:=W.frame _ h1 h2 st λx hx o q=>q4 x o (λz=>by
     rcases zl.mp hx with rfl | hx
     ·exact n2 z.symm
     ·rcases zl.mp hx with rfl | hx
      ·exact n3 z.symm
      ·cases hx) q
    refine ih ns (pre++[Value.int n I]) b2 L _ c2 e' rus (by rw[zf];exact X.1) X.2 q1 q3 λv h3 tk3 P Y=>?_
    exact hR v h3 tk3 (q2 ▸ P) λx o y1 y2 q=>Y x o y1 y2 (q4 x o y2 (kp x o (ni x y1) q))
   cases b with
   |none =>
    have C:bs = #[]:=Q;subst C;show wpAny _ A.in1 (updateSeq S (λ_=>#[Value.int n I,Value.int n I]) >>= _) _ _ _;refine za ?_;refine js E rfl ?_;rw[nm];exact zb ⟨plainId_quiet PySem.F.plain_min_loop _,go (some n) _ _ _ _ ⟨I,rfl⟩ rfl (Heap.get?_update_self _ E rfl) λx o z q=>O _ x o z q _⟩
   |some m =>
    obtain⟨t,C⟩:=Q;subst C;show wpAny _ A.in1 (tryCatch (holding [Value.int n I,Value.int n I] (richCompare .Lt (.int n I) (.int m t) >>= _)) _ >>= _) _ _ _;refine za (wpAny_tryCatch (zP (za (Yi ?_))));refine za (zP (wpAny_truthy_bool ?_));refine za (wpAny_letGo (zb ?_))
    by_cases J:n<m
    ·rw[zu J];simp only[if_true];refine za ?_;refine js E rfl (za (wpAny_letGo ?_));rw[nm];exact zb ⟨plainId_quiet PySem.F.plain_min_loop _,go (some n) _ _ _ _ ⟨I,rfl⟩ (by show _=mdI (some (if n<m then n else m)) ns;rw[if_pos J]) (Heap.get?_update_self _ E rfl) λx o z q=>O _ x o z q _⟩
    ·rw[zk J];simp only[Bool.false_eq_true,if_false];refine za (wpAny_letGo ?_);rw[nm];exact zb ⟨plainId_quiet PySem.F.plain_min_loop _,go (some m) _ _ _ _ ⟨t,rfl⟩ (by show _=mdI (some (if n<m then n else m)) ns;rw[if_neg J]) E λx o z q=>q⟩
def t7:List D->Option D
 | [.lst ds]=>(eV ds).map λns=>match mdI none ns with
  |some m=>.int m
  |none=>.non
 | _=>none
def Yk(a d:Value):argsOk "min" ⟨[a],[("default",d)]⟩:=by kernel_rfl
def Yl(y:X.calm=true)   {σ:St}     (I:Inv X pins σ H s)(x:SqL X.K H a (ns.map V.int))(q:Q (match mdI none ns with | some m=>.int m | none=>.non) H):
  wpAny (model X.prog X.w) X.A (call (.builtin "min") [.ref a] [("default",.none)]) (EP X pins σ Q) X.xe s:=by
 obtain⟨C,f,j,_⟩:=I.list x;have c:=j.isList
 have la:a<s.heap.objs.size:=by obtain⟨_,z,_⟩:=c;exact zj z
 refine Yh PySem.F.kind_min PySem.F.plain_min PySem.F.entry_min (Yk _ _) ?_;refine za (wpAny_of_eq ((rfl)) ?_);refine za (zb ?_);refine za (wpAny_pyIter_list c ?_);refine za (wpAny_newObj_type ?_);have sz:(s.heap.push {cls:=.type "list_iterator",data:=.fields #[.ref a,.int 0 0]}).objs.size=s.heap.objs.size+1:=Heap.size_push ..
 refine zb ⟨plainId_quiet PySem.F.plain_min_loop _,Yj (I.ok.hd y) (zq la) (Nat.ne_of_gt (by rw[sz];exact jb _)) (Nat.ne_of_gt (by rw[sz];exact jg la)) _ ns [] none _ _ 0 rfl f
  ⟨_,zo _ (zy _ rfl),rfl,rfl⟩ ((c.push _).push _) rfl (zy _ rfl) λv h1 tk d kp=>?_⟩
 have u :=λb o z=>kp b o (zq (zj z)) (zq (by rw[sz];exact jg (zj z))) (zo _ (zo _ z))
 refine⟨_,H,I.kept u,?_,q⟩
 cases e:mdI _ ns with
 | none
 |some m =>
  rw[e] at d;exact d
def Ym{p b C y:Pos}{j:Nat}   (R:X.calm=true)(G:X.mg "min" = none)(T:SE X md P e m)(J:Gl X "min":=by rfl)(hs:starEach [e] X.env=(false,eval e X.env)::starEach [] X.env:=by exact bZ rfl)(f:(backTo b (starEach [e] X.env)).any (·.1)=false:=by exact cP rfl)
  (L:backTo b (starEach [e] X.env)=(false,eval e X.env)::backTo b (starEach [] X.env):=by rfl):
  OE X md P (.Call (.Name "min" p) [e] [⟨some "default",.Constant .none j C,y⟩] b) (aK t7 (aj m ao)):=by
 intro pins s σ H Q I q;refine wpAny_Call_Name_kw (j7 I J G boot_min ?_);have q':=xx (ms:=[.s]) q;refine callWith_kw (thn (Fj T Fg hs _ _ s σ H _ I q') λus s1 ⟨vs,H1,I1,r1,q1⟩=>?_) L f;refine kws_cons (Constant_none (kws_nil ?_));obtain⟨O,F,Z,Y,d,r,c,e,k⟩:=q1;unfold t7 at e;split at e
 ·rename_i U;obtain⟨v,rfl,E⟩:=c.one;obtain⟨a,W,rfl,h1,h2⟩:=E.list r.fh;obtain⟨u,rfl,x⟩:=vals1 r1;cases x
  cases hi:eV U with
  |none=>rw[hi] at e;cases e
  |some ns =>
   rw[hi] at e;cases e;have hx:=h2.ints hi;refine Yl R I1 (by rw[<-hx];exact h1.sq) ?_
   cases em:mdI _ ns with
   |none =>
    dsimp  at k
    rw[em] at k;exact bT r k rfl Rp.non
   |some m =>
    dsimp  at k
    rw[em] at k;exact bT r k rfl Rp.int
 ·cases e
noncomputable def Itd(b:Int)(n:Nat):It:=⟨λi _=>i<n,λi H x c=>c=H/\x=.int (b - i),λi _=>n<=i⟩
def jL(b:Int)(n:Nat):List D:=(List.range n).map λi:Nat=>.int (b - i)
def Yn   {K:PySem.W.Frag}  (it:Addr)(lo:Int)(n:Nat):Turn P w K tg (Itd lo n) [it] it (λi h=>IsRangeIter h it (lo+(i:Nat) * (-1)) ((n:Int) - (i:Nat)) (-1)) where
 mem:=by simp
 obj:=λi h st b hb=>by
  have e:b=it:=by simpa using hb
  subst e
  exact⟨_,st,λv z=>by
   have z':Data.fields _=Data.cell v:=z
   cases z'⟩
 keep:=λi h h' st k=>k it (by simp) _ st
 item:=by
  intro X hP hw hK hc i pins s σ H E I hf st hg;subst hP hw hK;obtain⟨f0,f1,f2,f3,f4,f5⟩:=hf it (by simp);have W:=Walks.range (prog:=X.prog) (w:=X.w) (I.ok.hd hc) it lo (-1) n
  refine W.item i s _ _ hg st λv h' tk hv st' kk=>?_
  obtain⟨t,rfl⟩:=hv;have I1:Inv X pins σ H {s with heap:=h',toks:=tk}:=I.turned (λb o hb e=>kk b o (by simpa using hb) e) f0 f1 f3 f4 f5;refine⟨_,rfl,mZ (s:={s with heap:=h',toks:=tk}) (n:="range_iterator") st' rfl rfl (by decide) ⟨.int (lo - i),H,I1,⟨t,?_⟩,⟨rfl,rfl⟩,st',λb hb=>(hf b hb).1⟩⟩;rw[show lo+(i:Int) * (-1)=lo - i by omega]
 done:=by
  intro X hP hw hK hc i pins s σ H E I hf st hg;subst hP hw hK;obtain⟨f0,f1,f2,f3,f4,f5⟩:=hf it (by simp)
  exact wpAny_pyNext_range_end (I.ok.hd hc) st (by have:n<=i:=hg;omega) λh' eb=>⟨rfl,I.turned (t':=s.toks) (λb o hb e=>eb b o hb e) f0 f1 f3 f4 f5⟩
 self:=λ_ _ _ _ _ st h=>wpAny_pyIter_rangeiter st h
def GQ(a b:Int):Builtin.Range.rangeSize a b (-1)=if a>b then a - b else 0:=by
 unfold Builtin.Range.rangeSize;rw[if_neg (by decide)]
 split
 ·rw[show -(-1)=1 by decide];omega
 ·rfl
def small_down  (f:-(2 ^ 62)<=a)(d:a<2 ^ 62)(hb:-(2 ^ 62)<=b)(c:b<2 ^ 62):Builtin.Range.small a b (-1)=true:=by
 unfold Builtin.Range.small;rw[GQ];simp  [Builtin.Range.rangeFitsLong,if_false]
 split<;>omega
def Yo(c:TA):TI:=λσ H R=>c σ H λb d=>∃i j:Int,b=[.int i,.int j,.int (-1)]/\(-(2 ^ 62)<=i/\i<2 ^ 62/\-(2 ^ 62)<=j/\j<2 ^ 62)/\R (Itd i (i - j).toNat) d
def Yp{x:Expr}   {p m:Pos}(C:Gl X "range")(y:X.mg "range" = none)(F:PA X [a,b,c] ta)(hs:starEach [a,b,c] X.env=[(false,eval a X.env),(false,eval b X.env),(false,eval c X.env)]:=by rfl)(f:starEach [b,c] X.env=[(false,eval b X.env),(false,eval c X.env)]:=by rfl):
  PI X x (.Call (.Name "range" p) [a,b,c] [] m) (Yo ta):=by
 intro pins s σ H R I h;refine Call_ (j7 I C y boot_range (PyProof.Rows.callWith_type1 (thn (F _ _ s σ H _ I h) λus s1 ⟨vs,H1,I1,r1,q1⟩=>?_) (by rw[hs,f]) (by rw[f];rfl)));obtain⟨d,j,e,⟨h1,h2,h3,h4⟩,q⟩:=q1;subst e
 cases r1 with
 |cons r rr =>
  cases rr with
  |cons r' rr =>
   cases rr with
   |cons r'' rr =>
    cases rr;obtain⟨t,rfl⟩:=r;obtain⟨u,rfl⟩:=r';obtain⟨v,rfl⟩:=r'';refine call_range_3 (by decide) ?_;refine wpAny_pyIter_range (IsRange.new ..) (small_down h1 h2 h3 h4) ?_
    have J:Inv X _ σ H1 {s1 with heap:=s1.heap.push {cls:=.type "range",data:=.fields #[.int d t,.int j u,.int (-1) v]}}:=I1.kept λb o e=>zo _ e
    refine⟨(s1.heap.push _).objs.size,[(s1.heap.push _).objs.size],_,_,H1,rfl,
     J.kept λb o e=>zo _ e,Yn _ d _,?_,λb E=>?_,q⟩
    ·have L:d+(0:) * -1=d:=by simp
     have G:(d - j).toNat - (0:)=Builtin.Range.rangeSize d j (-1):=by rw[GQ];split<;>omega
     rw[L,G];exact zy _ rfl
    ·have e:b=(s1.heap.push {cls:=.type "range",data:=.fields #[.int d t,.int j u,.int (-1) v]}).objs.size:=by simpa using E
     subst e;exact J.fpOk (zc _) (J.hok.fresh (zc _))
def Yq{K:Frag}  {c:Int}   :lW K mg P (Itd c n) (jL c n) H F q:=xD (λi d j e=>by
 unfold jL at e;rw[zE] at e
 by_cases b:i<n
 ·rw[List.getElem?_range b] at e;cases e;refine⟨b,λx m y=>?_⟩;obtain⟨f,rfl⟩:=y;exact⟨f,λ_ _ _=>Rp.int⟩
 ·rw[jr (by simpa using b)] at e
  cases e) λj=>by simp[jL,Itd]
def t8(m:M (List D)):M (List D):=λρ O=>(m ρ O).bind λb d=>match b with
 | [.int i,.int j,.int c]=>if c = -1/\i<=1000000000/\-1000000000<=i/\j<=1000000000/\-1000000000<=j then .ok (jL i (i - j).toNat) d else .no
 | _=>.no
def bO.three{K:Frag}      (h:bO K H F as [m1,m2,m3] vs [d,e,f]):∃v u z,vs=[v,u,z]/\rA K m1 (λ_=>True) H F as v d/\rA K m2 (λ_=>True) H F as u e/\rA K m3 (λ_=>True) H F as z f:=by
 cases vs with
 |nil=>exact h.elim
 |cons v vs =>
  obtain⟨h1,h2⟩:=h;obtain⟨u,z,rfl,h3,h4⟩:=bO.two h2;exact⟨v,u,z,rfl,h1,h3,h4⟩
def Yr{y:Expr}  {p d:Pos}  (J:X.mg "range" = none)(T:AE X md P [.s,.s,.s] [a,b,c] m)(R:Gl X "range":=by rfl)(hs:starEach [a,b,c] X.env=[(false,eval a X.env),(false,eval b X.env),(false,eval c X.env)]:=by rfl)(x:starEach [b,c] X.env=[(false,eval b X.env),(false,eval c X.env)]:=by rfl):
  VI X md P y (.Call (.Name "range" p) [a,b,c] [] d) (t8 m):=(Yp R J T hs x).imp λσ H Q q=>by
 obtain⟨ρ,O,F,as,ds,O',r,s,e,k⟩:=q;obtain⟨es,O1,e1,e⟩:=Res.bind_ok e;split at e
 ·rename_i i j c;split at e
  ·rename_i L;cases e;obtain⟨rfl⟩:=L;refine⟨ρ,_,F,as,_,_,r,s,e1,λvs H1 F1 as1 U C G=>?_⟩;obtain⟨v,u,z,rfl,f,I,E⟩:=G.three;have Z:=(Sv.rp f rfl).unI;have Y:=(Sv.rp I rfl).unI;have W:=(Sv.rp E rfl).unI;subst Z Y W;exact⟨i,j,rfl,⟨by omega,by omega⟩,k _ H1 F1 _ U C Yq⟩
  ·cases e
 ·cases e
section
variable {X:Cx}{pins:List (Addr×Obj)}{σ:List (Option V)}{H:Hp}{s:Shared}{a:Addr}{xs:List (List Key×V)}{o:Obj}
def Inv.reword{u:HO}(I:Inv X pins σ H s)(ha:H a≠none)(hn:∀ys,H a≠some (.tup ys))(ho:∀y,H a≠some (.own y))(hb:∀ps,H a≠some (.tbl ps))(hf:∀o u,X.H₀ a≠some (.frz o u))(new:cg X.prog X.w (upd H a u) s.heap a u):Inv X pins σ (upd H a u) s where
 ok:=I.ok
 os:=I.os
 bare:=I.bare
 base:={
  keep:=I.base.keep
  slot:=I.base.slot
  free:=λb o' q n hx=>by
   have z:=I.base.free b o' q n hx;rw[aH (by intro e;have w:=z;rw[e] at w;exact ha w)];exact z
  there:=I.base.there
  tups:=λb ys q=>by
   have z:=I.base.tups b ys q;rw[aH (by intro e;have w:=z;rw[e] at w;exact hn ys w)];exact z
  frzs:=λb o' u' q=>by
   have z:=I.base.frzs b o' u' q;rw[aH (by intro e;have w:=q;rw[e] at w;exact hf o' u' w)];exact z
  tbls:=λb ps q=>by
   obtain⟨m,z⟩:=I.base.tbls b ps q
   exact⟨m,by rw[aH (by intro e;have w:=z;rw[e] at w;exact hb _ w)];exact z⟩}
 loc:=I.loc
 cell:=I.cell
 free:=by rw[aH (by intro e;have w:=I.free;rw[e] at w;exact ha w)];exact I.free
 freeC:=λx c q=>by rw[aH (by intro e;have w:=I.freeC x c q;rw[e] at w;exact ha w)];exact I.freeC x c q
 pin:=λp hp=>by
  obtain⟨h1,h2,h3,h4,h5⟩:=I.pin p hp;exact⟨h1,by rw[aH (by intro e;have w:=h2;rw[e] at w;exact ha w)];exact h2,h3,h4,h5⟩
 hok:=λb u' q=>by
  by_cases e:b=a
  ·subst e;rw[bz] at q;cases q;exact new
  ·rw[aH e] at q
   exact(I.hok b u' q).stay (λ_ _ _ z=>z) (λc z=>by rw[aH (by intro e;have w:=z;rw[e] at w;exact ho b w)];exact z) λc ys z=>by rw[aH (by intro e;have w:=z;rw[e] at w;exact hn ys w)];exact z
 len:=I.len
end
def Ys      (hd:(d == sysModules)=false)(c:s.heap.get? d=some o)(hx:o.ExactDict)(b:o.data=.dict es ep)
  (j:Q (.ref s.heap.objs.size) {s with heap:=s.heap.push {cls:=.type "dict_keyiterator",data:=.fields #[.ref d,.int 0 0,.int es.size 0,.int ep 0]}}):
  wpAny (model prog w) A (pyIter (.ref d)) Q E s:=by
 have f:s.TypeIs (.ref d) _:=⟨o,c,hx.1⟩;refine wpAny_pyIter_slot f PySem.F.slot_dict_iter (wpAny_call_entry PySem.F.slot_dict_iter f PySem.F.entry_dict_iter ?_);refine za ?_;refine za (wpAny_notOrdered_dict f ?_);refine zb ?_;show wpAny _ _ (Builtin.Dict.showsAll d >>= _) _ _ s;unfold Builtin.Dict.showsAll;rw[if_neg (by rw[hd];exact zv)];refine za (zb ?_);refine za (wpAny_dictEntries c b ?_);refine za (wpAny_dictEpoch c b ?_);refine za (wpAny_newObj_type (zb ⟨_,rfl,"dict_keyiterator",_,⟨_,zy _ rfl,rfl⟩,PySem.F.slot_dict_keyiterator_next.lookup,?_⟩));simpa
def Yt  {n:Nat}  {es:Array DictEntry}  (b:s.heap.IsKeyIter it d i n ep)(c:s.heap.get? d=some y)(f:y.data=.dict es ep)(hsz:es.size=n)(m:i<n)
  (x:∀h',h'.IsKeyIter it d (i+1) n ep->Heap.SameBut it s.heap h'->Q (some (es[i]'(by omega)).key) {s with heap:=h'}):
  wpAny (model prog w) A (pyNext (.ref it)) Q E s:=by
 obtain⟨o,j,u,hd⟩:=id b;unfold pyNext
 refine za (wpAny_attempt (wpAny_callSpecial?_slot b.typeIs PySem.F.slot_dict_keyiterator_next
  (wpAny_call_entry PySem.F.slot_dict_keyiterator_next b.typeIs PySem.F.entry_dict_keyiterator_next ?_)))
 refine za (zb ?_);refine za ?_;refine za ?_
 first | refine za (wpAny_typeNameOfWhole_keyiter b.typeIs (zb ?_)) | refine za
 refine za (wpAny_fieldsOf j hd ?_)
 have q:Builtin.Dict_items.ownsTuple "dict_keyiterator" = false:=by decide
 refine za (zb ?_);refine za (wpAny_dictEntries c f ?_);rw[if_neg (by rw[hsz];simp)];refine za (zb ?_);refine za (wpAny_dictEpoch c f ?_);rw[if_neg (by simp)];refine zb ?_
 have hlt':i<es.size:=by rw[hsz];exact m
 simp only[if_false,Int.toNat_natCast,Array.getElem?_eq_getElem hlt'];refine za ?_
 first | refine za (wpAny_typeNameOfWhole_keyiter b.typeIs (zb ?_)) | refine za
 refine za (wpAny_isOneOf_keyiter b.typeIs ?_);show wpAny _ _ (setField (.ref it) 1 (rawInt ((i:Int)+1)) >>= _) _ _ s;refine za (wpAny_setField j hd (by simp) ?_);have hit':(s.heap.update it (Obj.mapFields (·.setIfInBounds 1 (rawInt ((i:Int)+1))))).IsKeyIter it d (i+1) n ep :=
  ⟨_,Heap.get?_update_self _ j (Obj.isFreed_of_fields (Obj.data_mapFields hd _)),(Obj.cls_mapFields ..).trans u,by rw[Obj.data_mapFields hd];simp[rawInt]⟩
 refine za (zP ?_);refine za (wpAny_isOneOf_keyiter hit'.typeIs ?_);exact zb (zb ⟨_,rfl,zb (x _ hit' (Heap.SameBut.update ..))⟩)
def Yu      (y:A.handled=none)(c:s.heap.IsKeyIter it d i n ep)(f:s.heap.get? d=some I)(j:I.data=.dict es ep)(hsz:es.size=n)(q:n<=i)
  (C:∀h',Heap.ExtBut it s.heap h'->Q none {s with heap:=h'}):wpAny (model prog w) A (pyNext (.ref it)) Q E s:=by
 obtain⟨o,u,G,hd⟩:=id c;unfold pyNext
 refine za (wpAny_attempt (wpAny_callSpecial?_slot c.typeIs PySem.F.slot_dict_keyiterator_next
  (wpAny_call_entry PySem.F.slot_dict_keyiterator_next c.typeIs PySem.F.entry_dict_keyiterator_next ?_)))
 refine za (zb ?_);refine za ?_;refine za ?_
 first | refine za (wpAny_typeNameOfWhole_keyiter c.typeIs (zb ?_)) | refine za
 refine za (wpAny_fieldsOf u hd ?_)
 have x:Builtin.Dict_items.ownsTuple "dict_keyiterator" = false:=by decide
 refine za (zb ?_);refine za (wpAny_dictEntries f j ?_);rw[if_neg (by rw[hsz];simp)];refine za (zb ?_);refine za (wpAny_dictEpoch f j ?_);rw[if_neg (by simp)];refine zb ?_
 have hge':es.size<=i:=by rw[hsz];exact q
 simp only[if_false,Int.toNat_natCast,Array.getElem?_eq_none hge'];refine za ?_
 first | refine za (wpAny_typeNameOfWhole_keyiter c.typeIs (zb ?_)) | refine za
 show wpAny _ _ (setField (.ref it) 0 .none >>= _) _ _ s;refine za (wpAny_setField u hd (by simp) ?_);refine za ?_;refine za (m:=firstArgMember _ _) (wpAny_of_eq (a:=Value.none) (by first | rfl | (rfl)) ?_);refine wpAny_newObj_type ?_ (by size_fits);simp only[raiseNew];refine za (wpAny_handled ?_);rw[(y)];refine za (zb (wpAny_throw ?_));refine za (wpAny_isInstance (T:="StopIteration") (b:=true) ⟨_,zy _ rfl,rfl⟩ isSubtype_stop ?_);exact zb (C _ (((Heap.SameBut.update ..).extBut.push _).push _))
def Yv{β:Type}{R:α->β->Prop}{l:List α}{m:List β}(h:Paired R l m):∀{i:Nat}{x:α}{y:β},l[i]?=some x->m[i]?=some y->R x y:=by
 induction h with
 |nil=>intro i x y h;cases h
 |cons a b ih =>
  intro i x y h1 h2
  cases i with
  |zero=>cases h1;cases h2;exact a
  |succ i=>exact ih h1 h2
section
variable {K:Frag}{mg:Str->Option Value}{O:au}{H F:Hp}{as:List Addr}
def Gr.tupF{b:Addr}{xs:List V}(hb:H b=some (.tup xs))(c:F b=none):Gr H F as H (upd F b (.tup xs)) as :=
 ⟨λa o e _ hd=>aH (λz=>by rw[z,hb] at e;cases e;cases hd),λa u e=>by rw[aH (bV e c)];exact e,⟨[],by simp,λ_ h=>nomatch h⟩,λ_ _ h _ _=>h,λ_ h=>h,λ_ _ _ h=>h⟩
def RlO.noT{b:Addr}{xs:List V}(r:RlO K mg O H F as)(hb:H b=some (.tup xs)):b∉as:=λj=>by
 obtain⟨n,f,e⟩:=List.mem_iff_getElem.mp j
 have m:n<O.length:=by rw[<-r.len];exact f
 have q:=r.ob n b O[n] (by rw[zw f,e]) (zw m)
 revert q
 cases O[n] with
 |ins c fs=>rintro⟨C,y,gs,_,h2,_⟩;rw[hb] at h2;cases h2
 |ml E=>rintro⟨xs,h1,_⟩;rw[hb] at h1;cases h1
 |dt d=>rintro⟨xs,h1,_⟩;rw[hb] at h1;cases h1
 |df d=>rintro⟨o,xs,h1,_⟩;rw[hb] at h1;cases h1
 |dk d=>rintro⟨xs,h1,_⟩;rw[hb] at h1;cases h1
 |kf d=>rintro⟨o,xs,h1,_⟩;rw[hb] at h1;cases h1
 |xc c fs=>rintro⟨C,x,u,_,h1,_⟩;rw[hb] at h1;cases h1
 |gone=>rintro⟨φ,h1⟩;rw[hb] at h1;cases h1
 |dn d=>rintro⟨xs,h1,_⟩;rw[hb] at h1;cases h1
 |nf d=>rintro⟨o,xs,h1,_⟩;rw[hb] at h1;cases h1
theorem uc{K:Frag}:∀ks:List Key,Rps K F as (ks.map kV) (ks.map sZ)
 | []=>Rps.nil
 | .inl i::ks=>Rps.cons (show Rp K F as (.int i) (.int i) from rfl) (uc ks)
 | .inr x::ks=>Rps.cons (show Rp K F as (.str x) (.str x.cps.toList) from by
   show V.str x=V.str (S x.cps.toList)
   rw[show S x.cps.toList=x by cases x;simp[S]]) (uc ks)
end
section
variable {K:Frag}{mg:Str->Option Value}{md:List Md}{P:Pt}{ρ:aM}{σ:St}{O:au}{H F H' F':Hp}{as as':List Addr}
def gK.reH{m:Md}{v:V}{d:D}{a:Addr}{h:HO}(q:gK P K H F as m v d)(G:a∈as):gK P K (upd H a h) F as m v d:=by
 cases m with
 |v=>exact q
 |s =>
  rcases q with q | ⟨c,f,E,C,y,x,b,u,j⟩
  ·exact .inl q
  ·exact .inr ⟨c,f,E,C,y,by rw[aH (λz=>b (by rw[z];exact G))];exact x,b,u,j⟩
 |o =>
  rcases q with⟨h1,q⟩ | ⟨c,f,E,C,y,x,I,b,u,j⟩
  ·exact .inl ⟨h1,q⟩
  ·exact .inr ⟨c,f,E,C,y,by rw[aH (λz=>b (by rw[z];exact G))];exact x,I,b,u,j⟩
def SlO.reH{a:Addr}{h:HO}(s:SlO K md P ρ σ H F as)(b:a∈as):SlO K md P ρ σ (upd H a h) F as :=
 ⟨s.len,s.len',λc p z=>s.pd c p (by
  by_cases e:c=a
  ·rw[e,bz] at z;cases z
  ·rwa [aH e] at z),λi m d j f=>let ⟨v,q,r⟩:=s.sl i m d j f;⟨v,q,r.reH b⟩,s.inj,s.pin⟩
def SlO.obAt{i n:Nat}(s:SlO K md P ρ σ H F as)(e:ρ[i]?=some (some (.ob n))):∃a,as[n]?=some a:=by
 have c:i<md.length:=by rw[<-s.len'];exact(zt.mp e).1
 obtain⟨v,_,q⟩:=s.sl i _ _ (zw c) e
 have b:Rp K F as v (.ob n):=by
  revert q
  cases md[i] with
  |v=>exact λq=>q
  |s =>
   rintro(q | ⟨a,xs,ds,_,z,_⟩)
   ·exact q
   ·cases z
  |o =>
   rintro(⟨_,q⟩ | ⟨a,xs,ds,_,z,_⟩)
   ·exact q
   ·cases z
 obtain⟨a,_,d⟩:=Rp.unO b;exact⟨a,d⟩
end
def cu(b:List (Key×D))(k:Key):Option D:=(b.find? λp=>decide (p.1=k)).map (·.2)
def dj(b:List (Key×D))(k:Key)(d:D):List (Key×D):=
 if(b.any λp=>decide (p.1=k))=true then b.map (λp=>if p.1=k then(p.1,d) else p) else b++[(k,d)]
def DkR(K:Frag)(F:Hp)(c:List Addr)(xs:List (Key×V))(b:List (Key×D)):Prop:=xs.map (·.1)=b.map (·.1)/\Rps K F c (xs.map (·.2)) (b.map (·.2))
def DkR.len{K:Frag}   (h:DkR K F c xs b):xs.length=b.length:=by
 have:=congrArg List.length h.1
 simpa using this
def DkR.un{K:Frag}    (h:DkR K F as xs (p::kvs)):∃v r,xs=(p.1,v)::r/\Rp K F as v p.2/\DkR K F as r kvs:=by
 obtain⟨h1,h2⟩:=h
 cases xs with
 |nil=>cases h1
 |cons x r =>
  obtain⟨v,f,e,d,c⟩:=h2.un;cases e;rw[zg,zg] at h1;have b:=(List.cons.inj h1).1;refine⟨x.2,r,?_,d,(List.cons.inj h1).2,c⟩;rw[<-b]
theorem DkR.val{K:Frag} :∀{b:List (Key×D)}{xs:List (Key×V)},DkR K F as xs b->(cu b k=none/\dJ xs k=none)\/∃d v,cu b k=some d/\dJ xs k=some v/\Rp K F as v d
 | [],xs,h=>by
  have:=h.len
  cases xs with
  |nil=>exact .inl ⟨rfl,rfl⟩
  |cons=>cases this
 |p::b,xs,h=>by
  obtain⟨v,r,rfl,h1,h2⟩:=h.un
  by_cases e:p.1=k
  ·exact .inr ⟨p.2,v,by simp[cu,List.find?_cons,e],m7 e,h1⟩
  ·rw[show cu (p::b) k=cu b k by simp[cu,List.find?_cons,e],m8 (p:=(p.1,v)) e];exact DkR.val h2
theorem DkR.any{K:Frag} :∀{b:List (Key×D)}{xs:List (Key×V)},DkR K F as xs b->(xs.any λp=>decide (p.1=k))=b.any λp=>decide (p.1=k)
 | [],xs,h=>by
  have:=h.len
  cases xs with
  |nil=>rfl
  |cons=>cases this
 |p::b,xs,h=>by
  obtain⟨v,r,rfl,h1,h2⟩:=h.un;rw[List.any_cons,List.any_cons,DkR.any h2]
theorem DkR.repl{K:Frag}    (hv:Rp K F as v d):∀{b:List (Key×D)}{xs:List (Key×V)},DkR K F as xs b ->
  DkR K F as (xs.map λp=>if p.1=k then(p.1,v) else p) (b.map λp=>if p.1=k then(p.1,d) else p)
 | [],xs,h=>by
  have:=h.len
  cases xs with
  |nil=>exact⟨rfl,Rps.nil⟩
  |cons=>cases this
 |p::b,xs,h=>by
  obtain⟨u,r,rfl,h1,h2⟩:=h.un;obtain⟨f,c⟩:=DkR.repl (k:=k) hv h2
  by_cases e:p.1=k
  ·rw[zg,zg,if_pos e,if_pos e];exact⟨by rw[zg,zg,f],Rps.cons hv c⟩
  ·rw[zg,zg,if_neg e,if_neg e];exact⟨by rw[zg,zg,f],Rps.cons h1 c⟩
def DkR.put{K:Frag}   (h:DkR K F c xs b)(k:Key)   (hv:Rp K F c v d):DkR K F c (putK xs k v) (dj b k d):=by
 unfold putK dj;rw[h.any]
 split
 ·exact h.repl hv
 ·exact⟨by rw[zN,zN,h.1];rfl,by rw[zN,zN];exact Rps.snoc h.2 hv⟩
def RlO.dk{K:Frag}{n:Nat}   (r:RlO K mg O H F f)(b:f[n]?=some a)(c:O[n]?=some (.dk d)):∃xs,H a=some (.dK xs)/\DkR K F f xs d:=let ⟨xs,h1,h2,h3⟩:=r.ob n a _ b c;⟨xs,h1,h2,h3⟩
noncomputable def GR:M D:=λ_ O=>.ok (.ob O.length) (O++[.dk []])
def Yw :VE X md P (.Dict [] [] j) GR:=Tn.imp λσ H Q q p b=>by
 obtain⟨ρ,O,F,c,d,f,r,s,e,k⟩:=q;cases e;refine k _ _ F _ (Gr.snoc b) ((r.lay b).snocO (r.unF b) (λz=>r.all z b) ⟨[],bz,rfl,Rps.nil⟩) (Rp.mkO ?_);rw[<-r.len,zK (zc _),Nat.sub_self];rfl
def lg(mo my b:M D):MS:=λρ O=>match b ρ O with
 | .ok d O1=>match mo ρ O1 with
  | .ok (.ob n) O2=>match my ρ O2 with
   | .ok y O3=>match keyOf y,O3[n]? with
    |some k,some (.dk kvs)=>if kvs.length<1000000 then .nx ρ (O3.set n (.dk (dj kvs k d))) else .no
    | _,_=>.no
   | _=>.no
  | _=>.no
 | _=>.no
def Yx  (hr:aV kk X.A)    (ho:VE X md P o mo)(hi:VE X md P i my)(hv:VE X md P value mv)
  (hs:swapsWith value (some (.Subscript o i pos')) pos.line X.env=pure false:=by rfl):VS X md P R (.Assign [.Subscript o i pos'] value pos) (lg mo my mv):=
 (Th (wM hr) ho hi hv hs).imp λD σ H q=>by
  obtain⟨ρ,O,F,as,r,s,k⟩:=q;unfold lg at k;split at k
  ·rename_i d O1 e1;split at k
   ·rename_i n O2 e2;split at k
    ·rename_i y O3 e3;split at k
     ·rename_i U kvs e4 e5;split at k
      ·rename_i hz;refine⟨ρ,O,F,as,_,_,r,s,e1,λv H1 F1 I j r1 hv=>⟨ρ,O1,F1,I,_,_,r1,s.step j,e2,λx H2 F2 G f r2 hx=>⟨ρ,O2,F2,G,_,_,r2,s.step (j.trans f),e3,λu Y m as3 c T hu=>?_⟩⟩⟩;obtain⟨a,rfl,ha⟩:=Rp.unO hx;have b:=c.at_ n a ha;obtain⟨J,Q,L⟩:=T.dk b e5;have E :=(hu).key e4;subst E;have C:=(hv).gr (f.trans c)
       have hl:J.length<sizeLine:=by rw[L.len];exact zI hz (by decide)
       have g4:Gr Y m _ (upd Y a (.dK (putK J U v))) m _:=p6 (zL b) Q;have W:=((j.trans f).trans c).trans g4;obtain⟨z1,Z⟩:=L.put U C;exact⟨a,_,rfl,pO.k Q hl,k σ _ m _ W.toS (T.mutG b ⟨_,bz,z1,Z⟩) (s.step W)⟩
      ·exact False.elim k
     ·exact False.elim k
    ·exact False.elim k
   ·exact False.elim k
  ·exact False.elim k
def cQ(mo my:M D):M D:=λρ O=>(mo ρ O).bind λx c=>match x with
 | .ob n=>(my ρ c).bind λy b=>match keyOf y,b[n]? with
  |some k,some (.dk kvs)=>match cu kvs k with
   |some d=>.ok d b
   |none=>.no
  | _,_=>.no
 | _=>.no
def Yy  (W:aV kk X.A)    (Y:VE X md P o mo)(Z:VE X md P i my)(hs:sE i:=by intro _ _;rfl):VE X md P (.Subscript o i pos) (cQ mo my):=
 (Tf (wM W) Y Z hs).imp λσ H Q q=>by
  obtain⟨ρ,O,F,as,d,O',r,s,e,k⟩:=q;obtain⟨x,O1,e1,e⟩:=Res.bind_ok e
  cases x with
  |ob n =>
   obtain⟨y,O2,e2,e⟩:=Res.bind_ok e;split at e
   ·rename_i ks kvs e3 e4;split at e
    ·rename_i d' b;cases e;refine⟨ρ,_,F,as,_,_,r,s,e1,λx H1 F1 j G T hx=>⟨ρ,_,F1,j,_,_,T,s.step G,e2,λu H2 F2 as2 E C U=>?_⟩⟩;obtain⟨a,rfl,ha⟩:=Rp.unO hx;obtain⟨xs,L,J⟩:=C.dk (E.at_ n a ha) e4;have f :=(U).key e3;subst f
     rcases J.val with⟨c,m⟩ | ⟨d2,R,c,m,I⟩
     ·rw[c] at b;cases b
     ·rw[c] at b;cases b;refine⟨a,R,rfl,?_,k _ H2 F2 _ (G.trans E) C I⟩;rw[<-m];exact jA.k L
    ·cases e
   ·cases e
  | _=>cases e
def ud(b:Bool)(my mo:M D):M D:=λρ O=>(my ρ O).bind λy d=>(mo ρ d).bind λx c=>match x with
 | .ob n=>match keyOf y,c[n]? with
  |some k,some (.dk kvs)=>.ok (.bl (b != (cu kvs k).isSome)) c
  | _,_=>.no
 | _=>.no
def Yz{X:Cx}     (q:tM X.K X.mg md P (rO X.K) (ud true my mo) σ H Q):Eo (tM X.K X.mg md P (rV X.K) my) (tM X.K X.mg md P (rV X.K) mo) σ H Q:=by
 obtain⟨ρ,O,F,as,d,O',r,s,e,k⟩:=q;obtain⟨y,O1,e1,e⟩:=Res.bind_ok e;obtain⟨x,O2,Z,e⟩:=Res.bind_ok e;split at e
 ·split at e
  ·rename_i ks kvs Y W;cases e;refine⟨ρ,_,F,as,_,_,r,s,e1,λu H1 F1 E m R T=>⟨ρ,_,F1,E,_,_,R,s.step m,Z,λx G I as2 j f hx=>?_⟩⟩;obtain⟨a,rfl,U⟩:=Rp.unO hx;obtain⟨xs,L,J⟩:=f.dk U W;have C :=((T).gr j).key Y;subst C;refine⟨a,_,rfl,jA.k L,?_⟩
   rcases J.val with⟨c,b⟩ | ⟨d',v',c,b,z3⟩
   ·rw[c] at k;rw[b];exact k _ G I _ (m.trans j) f (.inl ⟨rfl,Rp.bl⟩)
   ·rw[c] at k;rw[b];exact k _ G I _ (m.trans j) f (.inl ⟨rfl,Rp.bl⟩)
  ·cases e
 ·cases e
def YB  (b:aV j X.A)    (f:VE X md P i my)(c:VE X md P o mo)(d:behindInMarks .NotIn o=false:=by with_unfolding_all rfl):TsE X md P (.Compare i [.NotIn] [o] pos) (az (ud true my mo)):=
 (v7 (Tg (wM b) f c) d).imp λσ H Q h=>Yz (nC h)
theorem Rps.reverse{K:Frag}  :∀{ds:List D}{xs:List V},Rps K F as xs ds->Rps K F as xs.reverse ds.reverse
 | [],xs,h=>by rw[h.un0];exact Rps.nil
 |d::ds,xs,h=>by
  obtain⟨x,r,rfl,h1,h2⟩:=h.un;rw[List.reverse_cons,List.reverse_cons];exact Rps.snoc (Rps.reverse h2) h1
noncomputable def ue(i:Nat):MS:=λρ O=>match ρ[i]? with
 |some (some (.lst ds))=>.nx (ρ.set i (some (.lst ds.reverse))) O
 | _=>.no
def YC{X:Cx}{P:Pt}{R:RR}(i:Nat){x:Str}{p apos b f:Pos}(y:md[i]?=some .o:=by rfl)(hN:X.N[i]?=some x:=by rfl)(G:Vis X.env.scope x:=by first | exact Or.inl rfl | exact Or.inr (Or.inl rfl) | exact Or.inr (Or.inr rfl))
  (hd:(x == ("__debug__":Str))=false:=by decide) (m:(x == ("__classdict__":Str))=false:=by decide)
  (d:attributeBase (.Name x p) "reverse" X.env (eval (.Name x p) X.env)=eval (.Name x p) X.env:=by rfl) (c:(apos.endLine == b.line)=true:=by rfl)
  (j:swapsWith (.Call (.Attribute (.Name x p) "reverse" apos) [] [] b) none f.line X.env=pure false:=by rfl):
  VS X md P R (.Expr (.Call (.Attribute (.Name x p) "reverse" apos) [] [] b) f) (ue i):=
 (mY (Sx PySem.F.plainAttrs_list PySem.F.slot_list_reverse PySem.F.type_list_reverse SM (j6 (i:=i) hN G hd m) d c) j).imp λD σ H q=>by
  obtain⟨ρ,O,F,J,r,s,k⟩:=q;unfold ue at k;split at k
  ·rename_i Q E;obtain⟨a,u,h1,h2,h3,h4,C,I⟩:=s.own y E
   have L:H a≠none:=by rw[h2];exact λz=>nomatch z
   exact⟨_,h1,.inl ⟨rfl,u,.inl (.inl h2)⟩,a,u,rfl,rfl,h2,k σ _ F J (tW h2 C) (r.mut h3 h4) (s.mut y E h1 h3 h4 C (Rps.reverse I))⟩
  ·exact False.elim k
def iM:List Int->Option Int
 | []=>none
 |n::ns=>match iM ns with
  |some m=>some (if m<n then n else m)
  |none=>some n
theorem xN:∀{ns:List Int}{M:Int},M∈ns->(∀a,a∈ns->a<=M)->iM ns=some M
 | [],M,h,_=>nomatch h
 |n::ns,M,h,hM=>by
  unfold iM
  rcases zl.mp h with rfl | h
  ·cases e:iM ns with
   |none=>rfl
   |some m =>
    dsimp only
    have:∀{ns:List Int}{m:Int},iM ns=some m->m∈ns:=by
     intro ns
     induction ns with
     |nil=>intro m h;cases h
     |cons n ns ih =>
      intro m h;unfold iM at h
      cases e:iM ns with
      |none=>rw[e] at h;cases h;exact ze
      |some k =>
       rw[e] at h;dsimp only at h;cases h
       split
       ·exact ze
       ·exact zp _ (ih e)
    have d:=hM m (zp _ (this e))
    by_cases b:m<M
    ·rw[if_pos b]
    ·rw[if_neg b];exact congrArg some (by omega)
  ·rw[xN h λa c=>hM a (zp _ c)];dsimp only
   have:=hM n ze
   by_cases b:M<n
   ·omega
   ·rw[if_neg b]
def nP:List D->Option D
 | [.lst ds]=>match eV ds with
  |some ns=>(iM ns).map D.int
  |none=>none
 | _=>none
def YD(T:X.calm=true):fK X (.builtin "max") (λxs H Q=>∃(a:Addr) (ns:List Int) (M:Int),xs=[.ref a]/\SqL X.K H a (ns.map V.int)/\iM ns=some M/\Q (.int M) H):=by
 intro pins s σ H xs U Q I r h;obtain⟨a,ns,M,rfl,f,F,q⟩:=h;obtain⟨u,rfl,J⟩:=vals1 r;cases J;obtain⟨c,G,p,W⟩:=I.list f;have x:=intsAre_of G;have E:=p.isList;obtain⟨xs,d⟩:=x.allInts.items;have O:=x.numsOf
 have C:0<ns.length:=by
  cases ns with
  |nil=>cases F
  |cons n ns=>exact Nat.succ_pos _
 have y:0<xs.size:=by
  have h1:c.toArray.size=xs.size:=by rw[d];simp[intItems]
  rw[<-h1,zF,x.length];exact C
 rw[d] at E
 refine max_intList (I.ok.hd T) E y λv Y tk L P=>?_
 obtain⟨t,rfl⟩:=intItems_at L;have m:numsOf c=numsOf c.toArray.toList:=rfl;rw[d,nums_intItems] at m;rw[O] at m;obtain⟨h1,h2⟩:=argBest_gt (numAt xs) (xs.size - 1)
 have b:=xN (ns:=ns) (M:=numAt xs (argBest (λi j=>decide (numAt xs i>numAt xs j)) (xs.size - 1))) (by
  rw[m,numAt_eq]
  exact getD_mem (by rw[zd,Array.length_toList];omega)) (λa f=>by
  rw[m] at f;obtain⟨j,R,rfl⟩:=mem_getD f;rw[zd,Array.length_toList] at R;rw[<-numAt_eq]
  exact h2 j (by omega))
 rw[F] at b
 have:=zC b
 rw[<-this];exact⟨.int M,H,I.kept (t':=tk) P,⟨t,rfl⟩,q⟩
def YF(q:X.calm=true):kO X (.builtin "max") nP:=by
 intro pins s σ H c f Q I j h;obtain⟨O,F,y,x,d,r,b,e,k⟩:=h;unfold nP at e;split at e
 ·rename_i u;obtain⟨v,rfl,m⟩:=b.one;obtain⟨a,c,rfl,h1,h2⟩:=m.list r.fh
  cases hi:eV u with
  |none=>rw[hi] at e;cases e
  |some ns =>
   rw[hi] at e;dsimp only at e
   cases hm:iM ns with
   |none=>rw[hm] at e;cases e
   |some M =>
    rw[hm] at e;cases e;have hx:=h2.ints hi;exact YD q pins s σ H _ f Q I j ⟨a,ns,M,rfl,by rw[<-hx];exact h1.sq,hm,bT r k rfl Rp.int⟩
 ·cases e
end L2
namespace L2
open PySem PySem.Spec PyProof.Rows PySem.W PySem.Calls
def eX(ss:List Str)(x:Str):List Str:=if x∈ss then ss else ss++[x]
def lZ(es:Array (Int×Value)):List Str:=es.toList.map λe=>strOf e.2
def dq(prog:Program)(w:World)(h:Heap)(a:Addr)(ss:List Str)(o:Obj)(es:Array (Int×Value))(ep:Nat)(t:SetTable):Prop :=
 h.get? a=some o/\o.ExactSet/\o.data=.set es ep t/\ElemsOf (PySem.strKind prog w) es.toList/\(lZ es).Perm ss/\es.size<scanBound/\t.fits es.size=true/\(es.size=0\/t.plain=false)/\t.led = !w.params.followText "set-order"
def cR(prog:Program)(w:World)(h:Heap)(a:Addr)(ss:List Str):Prop:=∃o b c t,dq prog w h a ss o b c t
section
variable {prog:Program}{w:World}{A:Around}{E:Value->Shared->Prop}{s:Shared}{a:Addr}{ss:List Str}
def cR.at{h h':Heap}(x:cR prog w h a ss)(k:∀o,h.get? a=some o->h'.get? a=some o):cR prog w h' a ss :=
 let ⟨o,es,ep,t,h1,r⟩:=x;⟨o,es,ep,t,k o h1,r⟩
def cR.len{h:Heap}(x:cR prog w h a ss):ss.length<scanBound:=by
 obtain⟨o,d,f,t,h1,h2,h3,h4,c,b,_⟩:=x;rw[<-c.length_eq];unfold lZ;rw[zd];exact b
def YG(t:SetTable)(es:Array (Int×Value))(n:Nat)(h:t.plain=false):(relayAll t es n).2.1.plain=false:=by
 unfold relayAll
 split
 ·rename_i b order e
  dsimp
  split
  ·unfold SetTable.relaid SetTable.laid at e
   cases q:SetTable.layClean _ _ with
   |none=>rw[q] at e;cases e
   |some  =>
    rw[q] at e;cases e;exact h
  ·rfl
 ·rfl
def YH(t:SetTable)(es:Array (Int×Value))(n:Nat):(relayAll t es n).2.1.led=t.led:=by
 unfold relayAll
 split
 ·rename_i b order e
  dsimp
  split
  ·unfold SetTable.relaid SetTable.laid at e
   cases q:SetTable.layClean _ _ with
   |none=>rw[q] at e;cases e
   |some  =>
    rw[q] at e;cases e;rfl
  ·rfl
 ·rfl
def YJ(t:SetTable)(n:Nat):(t.orStandIn n).led=t.led:=by
 unfold SetTable.orStandIn
 split<;>rfl
def YK(t:SetTable)(es:Array (Int×Value))(h:Int)(x:Value):(layNew t es h x).2.1.led=t.led:=by
 unfold layNew
 split
 ·exact YJ _ _
 ·rfl
def GX{h:Heap}     (q:h.get? a=some o)(d:o.ExactSet)(hd:o.data=.set es ep t)
   (f:ElemsOf (PySem.strKind prog w) x.toList) (m:(lZ x).Perm ss) (hb:x.size<scanBound) (u:t'.fits x.size=true) (c:t'.plain=false) (b:t'.led = !w.params.followText "set-order"):
  (h.update a (Obj.putSet x t')).get? a=some {o with data:=.set x (ep+1) t'}/\cR prog w (h.update a (Obj.putSet x t')) a ss:=by
 have j :=by
  have:=Heap.get?_update_self (Obj.putSet x t') q (by rw[putSet_of _ t' hd];rfl)
  rw[putSet_of _ t' hd] at this;exact this
 exact⟨j,_,x,ep+1,t',j,d,rfl,f,m,hb,u,.inr c,b⟩
def GZ{g:Bool->Sem Unit}(Y:∀(b:Bool) (c:Shared) (X:Unit->Shared->Prop),X () c->wpAny (model prog w) A (g b) X E c)
    (W:s.heap.get? a=some o) (G:o.ExactSet) (hd:o.data=.set es ep t)
   (j:ElemsOf (PySem.strKind prog w) es1.toList) (x:(lZ es1).Perm ss) (m:es1.size<scanBound) (Q:t2.fits es1.size=true) (u:t2.plain=false) (f:t2.led = !w.params.followText "set-order")
  (h:∀h',Heap.SameBut a s.heap h'->cR prog w h' a ss->R (some true) {s with heap:=h'}):
  wpAny (model prog w) A (do
    storeSet a es1 t2
    if(!wasDummy&&t2.tooFull)=true then do
      g (relayAll t2 es1 (SetTable.grown es1.size)).2.2
      storeSet a (relayAll t2 es1 (SetTable.grown es1.size)).1 (relayAll t2 es1 (SetTable.grown es1.size)).2.1
      pure (some true)
     else pure (some true)) R E s:=by
 refine za (wpAny_storeSet_of W hd ?_ (fits_of_scanBound m));obtain⟨y,U⟩:=GX W G hd j x m Q u f;have d:=Heap.SameBut.update s.heap a (Obj.putSet es1 t2)
 split
 ·have O:=relayAll_perm t2 es1 (SetTable.grown es1.size);have F:=relayAll_fits t2 es1 (SetTable.grown es1.size);have q:=YG t2 es1 (SetTable.grown es1.size) u;have C:=YH t2 es1 (SetTable.grown es1.size)
  generalize  relayAll t2 _ _=Z at O F q C ⊢
  obtain⟨J⟩:=Z;have L :=j.perm O
  have P:J.size=es1.size:=by rw[<-Array.length_toList,O.length_eq,Array.length_toList]
  have I:J.size<scanBound:=by rw[P];exact m
  refine za (Y _ _ _ ?_);refine za (wpAny_storeSet_of y rfl ?_ (fits_of_scanBound I));obtain⟨_,T⟩:=GX y G rfl L ((O.map _).trans x) I F q (C.trans f);exact zb (h _ (d.trans (Heap.SameBut.update _ a _)) T)
 ·exact zb (h _ d U)
def YL    (hS:cR prog w s.heap a ss)(T:ss.length+1<scanBound)
  (h:∀h' b,Heap.SameBut a s.heap h'->cR prog w h' a (eX ss x)->Q b {s with heap:=h'}):
  wpAny (model prog w) A (setAddHashed a (.str x tk) ((PySem.strKind prog w).hash x)) Q E s:=by
 obtain⟨o,C,ep,t,X,P,hd,m,W,hb,hf,hpl,u⟩:=hS
 have G:(PySem.strKind prog w).is x (.str x tk)=true:=by
  show Value.isStrOf x (.str x tk)=true;simp[Value.isStrOf]
 have hlen:C.size=ss.length:=by rw[<-W.length_eq];unfold lZ;rw[zd,Array.length_toList]
 have hb1:C.size+1<scanBound:=by rw[hlen];exact T
 have Z:(Value.str x tk).scannable=true:=rfl
 have key:∀e∈C.toList,∀y,(PySem.strKind prog w).is y e.2=true↔strOf e.2=y:=λe he y=>by
  obtain⟨⟨k,hk,_⟩,_⟩:=m e he;obtain⟨t',ht⟩:=Value.isStrOf_shape hk;rw[ht];show Value.isStrOf y (.str k t')=true↔k=y;simp[Value.isStrOf]
 refine zP (za (wpAny_setState_of X hd hf ?_));dsimp only;rw[byScan_of Z hb m];refine za ?_;refine za (zY ?_);refine za (wpAny_setScan_of G X hd hf m ?_)
 cases hr:List.findIdx? _ C.toList with
 |some j =>
  obtain⟨hj,hpj,_⟩:=List.findIdx?_eq_some_iff_getElem.mp hr;have hx:x∈ss:=W.mem_iff.mp (zA.mpr ⟨C.toList[j],jh hj,(key _ (jh hj) x).mp hpj⟩);refine zb (zb ?_)
  have e:s = {s with heap:=s.heap}:=by cases s;rfl
  rw[e];exact h s.heap _ (Heap.SameBut.refl a s.heap) ⟨o,C,ep,t,X,P,hd,m,by rw[eX,if_pos hx];exact W,hb,hf,hpl,u⟩
 |none =>
  have hx:x∉ss:=λhx=>by
   obtain⟨e,he,q⟩:=zA.mp (W.mem_iff.mpr hx)
   have:=List.findIdx?_eq_none_iff.mp hr e he
   rw[(key e he x).mpr q] at this;exact Bool.noConfusion this
  have hgw:∀(b:Bool) {d:Shared}{Y},Y () d->wpAny (model prog w) A (match b with | true=>rule "set.scan.the-table-gave-way" | false=>pure ()) Y E d :=
   λb d Y F=>by cases b<;>first | exact zb F | exact zY F
  have c:=layNew_perm t C ((PySem.strKind prog w).hash x) (.str x tk);have f:=layNew_fits t C ((PySem.strKind prog w).hash x) (.str x tk);have O:=YK t C ((PySem.strKind prog w).hash x) (.str x tk)
  generalize hL:layNew t C _ (.str x tk)=L at c f O ⊢
  obtain⟨es1,t1,U,gave⟩:=L;rw[Array.toList_push] at c;have I :=(m.push G Z).perm c
  have hp1:(lZ es1).Perm (eX ss x):=by
   rw[eX,if_neg hx];refine(c.map _).trans ?_;rw[zN];exact W.append_right _
  have hb1':es1.size<scanBound:=by rw[<-Array.length_toList,c.length_eq,zf];simpa using hb1
  refine za (hgw _ ?_)
  split
  ·refine za ?_;refine zb ?_;refine GZ ?_ X P hd I hp1 hb1' (SetTable.fits_plain_off f) rfl (O.trans u) ?_
   ·intro b d Y F;cases b<;>first | exact zb F | exact zY F
   ·intro h' J R;dsimp only;exact zb (h h' _ J R)
  ·rename_i hnp;refine za (zb ?_);refine GZ ?_ X P hd I hp1 hb1' f (by simpa using hnp) (O.trans u) ?_
   ·intro b d Y F;cases b<;>first | exact zb F | exact zY F
   ·intro h' J R;dsimp only;exact zb (h h' _ J R)
def isS(x:Str)(t:Tok):(PySem.strKind prog w).is x (.str x t)=true:=by
 show Value.isStrOf x (.str x t)=true;simp[Value.isStrOf]
def map_getD(ns:List Str):(List.range' 0 ns.length).map (λi=>ns.getD i ⟨#[]⟩)=ns:=by
 apply List.ext_getElem
 ·simp
 ·intro i h1 h2;simp[h2]
def YM{R:Result->Shared->Prop}{I:Addr}{fp j:List Addr}{G:Array GenState->Array GenState->Prop}{n:Nat}{P:Nat->Value->Prop}{St:Nat->Shared->Prop}(W:WalksS prog w A.in1 I fp j G n P St)(S:Addr)(y:S∉fp)
  (val:Nat->Str) (C:∀i v,P i v->∃t,v=.str (val i) t) (hb:n+1<scanBound):
  ∀(k i:Nat) (s:Shared) (ss:List Str),n - i=k->i<=n->St i s->ss.length<=i->cR prog w s.heap S ss ->
   (∀c,Moved (S::j) G s c->cR prog w c.heap S (((List.range' i (n - i)).map val).foldl eX ss)->R (.ok (.ret .none)) c) ->
   codeAny (model prog w) A (.builtin "set.update.loop" ⟨[.ref S,.ref I],[]⟩) R s:=by
 have x:S∉j:=λh=>y (W.sub _ h)
 have d:∀b∈j,b∈S::j:=λb hb=>zp _ hb
 intro k
 induction k with
 |zero =>
  intro i s ss hk hi f X Q T
  have Y:i=n:=by omega
  subst Y;refine zZ PyProof.Rows.F.entry_set_update_loop ?_;rw[Around.under_plainId PyProof.Rows.F.plain_set_update_loop _];show wpAny _ A.in1 (pyNext (.ref I) >>= _) _ _ s;refine za (W.done s _ _ f λc m=>?_);show wpAny _ A.in1 (ret Value.none) _ _ c;refine zb (T c (m.mono d) ?_);rw[Nat.sub_self]
  exact Q.at λo e=>m.heap S _ x e
 |succ k ih =>
  intro i s ss hk hi f X Q T
  have u:i<n:=by omega
  refine zZ PyProof.Rows.F.entry_set_update_loop ?_;rw[Around.under_plainId PyProof.Rows.F.plain_set_update_loop _];show wpAny _ A.in1 (pyNext (.ref I) >>= _) _ _ s;refine za (W.item i s _ _ u f λv c hP J m=>?_);obtain⟨t,rfl⟩:=C i v hP
  have hS':cR prog w c.heap S ss:=Q.at λo e=>m.heap S _ x e
  show wpAny _ A.in1 (holding [Value.str (val i) t] (setAdd S (.str (val i) t)) >>= _) _ _ c;refine za (zP ?_);unfold setAdd;refine zP ?_;refine za ((PySem.strKind prog w).pyHash (k:=val i) (isS _ _) ?_)
  refine YL (s:={c with toks:=c.toks+1}) hS' (by omega) λh' b q Z=>?_
  refine zb ⟨plainId_quiet PyProof.Rows.F.plain_set_update_loop _,ih (i+1) _ (eX ss (val i)) (by omega) u (W.frame _ c _ _ J (Nat.le_succ _) λb hb o e=>?_) ?_ Z λU L O=>?_⟩
  ·rw[q.2 b (λh:b=S=>y (by rw[<-h];exact hb))];exact e
  ·unfold eX
   split
   ·omega
   ·rw[zf,zM];omega
  ·refine T U (Moved.trans W.gtrans ((m.mono d).then_heap (Nat.le_succ _) λb o hb e=>?_) L) ?_
   ·rw[q.2 b (λh:b=S=>hb (by rw[h];exact ze))];exact e
   ·rw[show n - i=(n - (i+1))+1 by omega,List.range'_succ,zg,List.foldl_cons];exact O
def YQ(x:Value)
  (h:Q₁ (.ref s.heap.objs.size) {s with heap:=s.heap.push {cls:=.type "set",dict:=none,data:=.set #[] 0 (.fresh 0 0 (!w.params.followText "set-order"))}}):
  codeAny (model prog w) A (.call (.builtin "set.__new__") ⟨[.type "set",x],[]⟩) (wants Q₁ E) s:=by
 refine codeAny_of_tree ?_;refine za (wpAny_of_eq (PySem.F.newCall_set_1 x) (zb ⟨plainId_quiet PySem.F.plain_set_new _,zZ PySem.F.entry_set_new ?_⟩));have b:=sub_set_self
 wp_walk
 refine wpAny_askSetting (zb ?_);refine za (wpAny_alloc (zb ?_));exact zb h
def G3{h:Heap}:cR prog w (h.push {cls:=.type "set",dict:=none,data:=.set #[] 0 (.fresh 0 0 (!w.params.followText "set-order"))}) h.objs.size []:=
 ⟨_,#[],0,_,zy _ rfl,⟨rfl,rfl,rfl⟩,rfl,λe b=>by simp at b,.nil,by decide,by rfl,.inl rfl,rfl⟩
set_option maxHeartbeats 8000000 in
def YS
  (hh:A.handled=none) (hl:s.heap.IsList l items) (X:StrsAre items.toList ns) (hb:items.size+1<scanBound)
  (h:∀(h':Heap) (tk:Nat),cR prog w h' s.heap.objs.size (ns.foldl eX []) ->
   (∀b o,s.heap.get? b=some o->h'.get? b=some o)->Q (.ref s.heap.objs.size) {s with heap:=h',toks:=tk}):
  wpAny (model prog w) A (call (.type "set") [.ref l]) Q E s:=by
 obtain⟨c,tl,hmro⟩:=PySem.F.called_set.mro;have hmade:=PySem.F.called_set.made;have hsub:=PySem.F.called_set.sub;refine wpAny_call (codeAny_of_tree ?_);show wpAny _ _ (callAny (.type "set") _) _ _ _;refine zb ⟨Code.quiet_builtin _ (by decide +kernel),zZ PySem.F.entry_type_call ?_⟩;rw[Around.under_plain (weight_type_call_type "set" [.ref l] []) rfl];have h1:=PySem.F.called_set.notType;have h2:=PySem.F.called_set.canCreate;have hct:=PySem.F.typeCall_set_1 (.ref l)
 repeat (any_goals (first | assumption | wp_step))
 generalize hO:({cls:=.type "set",dict:=none,data:=.set #[] 0 (.fresh 0 0 (!w.params.followText "set-order"))}:Obj)=O0
 refine codeAny_mono (YQ (.ref l) (E:=E) (Q₁:=λobj q=>obj=.ref s.heap.objs.size/\q = {s with heap:=s.heap.push O0}) (by rw[hO];exact⟨rfl,rfl⟩)) λr q W=>?_
 cases r with
 |error e=>exact W
 |ok fl =>
  cases fl with
  |ret obj =>
   obtain⟨rfl,rfl⟩:=W
   have hfr:cR prog w (s.heap.push O0) s.heap.objs.size []:=by rw[<-hO];exact G3
   have hS:(s.heap.push O0).get? s.heap.objs.size=some O0:=by rw[<-hO];exact zy _ rfl
   have U:O0.cls=.type "set":=by rw[<-hO]
   have hdat:O0.data=.set #[] 0 (.fresh 0 0 (!w.params.followText "set-order")):=by rw[<-hO]
   have hT:Shared.TypeIs {s with heap:=s.heap.push O0} (.ref s.heap.objs.size) "set":=⟨_,hS,U⟩;have hli:=PySem.F.called_set.init.lookup;have hbi:=PySem.F.called_set.init.bind (.ref s.heap.objs.size)
   repeat (any_goals (first | assumption | wp_step))
   refine codeAny_mono (codeAny_call_builtin (R:=wants (λr m=>r=.none/\∃h' tk,m = {s with heap:=h',toks:=tk} /\
     cR prog w h' s.heap.objs.size (ns.foldl eX []) /\
     (∀b o,s.heap.get? b=some o->h'.get? b=some o)) E) PySem.F.called_set.init.plain PySem.F.entry_set_init (check_set_init_1 hT ?_)) λO m d=>?_
   ·subst hO;obtain⟨ol,C,L,nl,J⟩:=hl;obtain⟨ocls,y,odata,j⟩:=ol;simp only at L J;subst L;subst J;have hol':(s.heap.push {cls:=.type "set",dict:=none,data:=.set #[] 0 (.fresh 0 0 (!w.params.followText "set-order"))}).get? l=some {cls:=.type "list",dict:=y,data:=.seq items nl,slots:=j}:=zo _ C;have hsls:=PySem.F.sub_list_set;have hslf:=PySem.F.sub_list_frozenset
    have hne:(Value.type "list" == Value.type "dict")=false:=by decide
    have I:(s.heap.push {cls:=.type "set",dict:=none,data:=.set #[] 0 (.fresh 0 0 (!w.params.followText "set-order"))}).IsList l items:=⟨_,hol',rfl,nl,rfl⟩;unfold Builtin.«set.__init__» noKeywords Builtin.Frozenset.updateFrom
    generalize hPI:pyIter=PI
    wp_walk
    subst hPI;refine wpAny_pyIter_list I ?_;refine za (wpAny_runValue ?_);have G:l<s.heap.objs.size:=zj C
    have hh3:A.in1.in1.in1.handled=none:=by simp[hh]
    have T:l≠(s.heap.push {cls:=.type "set",dict:=none,data:=.set #[] 0 (.fresh 0 0 (!w.params.followText "set-order"))}).objs.size:=by
     rw[Heap.size_push];exact zq (jg G)
    have hSf:s.heap.objs.size∉[(s.heap.push {cls:=.type "set",dict:=none,data:=.set #[] 0 (.fresh 0 0 (!w.params.followText "set-order"))}).objs.size,l]:=by
     rw[Heap.size_push];simp only[zl,zm,List.not_mem_nil,or_false,not_or];exact⟨zq (jb _),Nat.ne_of_gt G⟩
    have hnl:ns.length=items.size:=by rw[<-X.strs,zd,Array.length_toList]
    have P:∀(i:Nat) (v:Value),items[i]?=some v->∃t,v=.str ((λi=>ns.getD i ⟨#[]⟩) i) t:=λi v hv=>by
     have hv':items.toList[i]?=some v:=by rw[Array.getElem?_toList];exact hv
     obtain⟨x,t,rfl⟩:=X.all v (zL hv');refine⟨t,?_⟩
     have u:(items.toList.map strOf)[i]?=some x:=by rw[zE,hv'];rfl
     rw[X.strs] at u;show Value.str x t=Value.str (ns.getD i ⟨#[]⟩) t;rw[jf,u];rfl
    refine YM ((Walks.list hh3 _ l T items).toS) s.heap.objs.size
     hSf (λi=>ns.getD i ⟨#[]⟩) P hb (items.size - 0) 0 _ [] (by omega) (Nat.zero_le _)
     ⟨⟨_,zy _ rfl,rfl,rfl⟩,(I.push _)⟩ (zc _) (G3.at λo e=>zo _ e) ?hR
    intro s' u f;rw[Nat.sub_zero,<-hnl] at f;rw[map_getD] at f;obtain⟨h',g',d',Y,Z⟩:=s';have eg:g'=s.gens:=u.gens;have ed:d'=s.drawn:=u.drawn;have eo:Z=s.os:=u.os;subst eg;subst ed;subst eo;show wpAny _ _ _ _ _ _;refine zb ?_;show wpAny _ _ (ret Value.none) _ _ _;refine zb ⟨rfl,h',Y,rfl,f,λb o e=>?_⟩;have hb':=zj e;have hb1:b≠s.heap.objs.size:=zq hb'
    have hb2:b≠(s.heap.push {cls:=.type "set",dict:=none,data:=.set #[] 0 (.fresh 0 0 (!w.params.followText "set-order"))}).objs.size:=by
     rw[Heap.size_push];exact zq (jg hb')
    exact u.heap b o (by simp only[zl,zm,List.not_mem_nil,or_false,not_or];exact⟨hb1,hb2⟩) (zo _ (zo _ e))
   ·cases O with
    |error e=>exact d
    |ok fl₂ =>
     cases fl₂ with
     |ret r =>
      obtain⟨rfl,h',tk,rfl,f,hk'⟩:=d
      repeat (any_goals (first | assumption | wp_step))
      exact h _ _ f hk'
     | _=>exact d.elim
  | _=>exact W.elim
end
def gU:Slot "set_iterator" "__next__" "set_iterator.__next__" :=
 .of (owner:="set_iterator") (n:="__next__") (by kernel_rfl) (by decide ) (by decide ) (by decide )
  (by first | exact .inl (by decide ) | exact .inr) (by kernel_rfl)
def uf:entryFor table "set_iterator.__next__" = some Builtin.«set_iterator.__next__»:=entryFor_of_tree (by kernel_rfl)
def YT(a:Value):argsOk "set_iterator.__next__" ⟨[a],[]⟩:=by kernel_rfl
def G4:Slot "set_iterator" "__iter__" "set_iterator.__iter__" :=
 .of (owner:="set_iterator") (n:="__iter__") (by kernel_rfl) (by decide ) (by decide ) (by decide )
  (by first | exact .inl (by decide ) | exact .inr) (by kernel_rfl)
def YW:entryFor table "set_iterator.__iter__" = some Builtin.«dict_keyiterator.__iter__» :=
 entryFor_alias (id':="dict_keyiterator.__iter__") (by kernel_rfl) rfl (by decide +kernel) (by kernel_rfl)
def QBZ(a:Value):argsOk "set_iterator.__iter__" ⟨[a],[]⟩:=by kernel_rfl
def YX:entryFor table "set.__iter__" = some Builtin.«frozenset.__iter__» :=
 entryFor_alias (id':="frozenset.__iter__") (by kernel_rfl) rfl (by decide +kernel) (by kernel_rfl)
def ItS(h:Heap)(I a:Addr)(first:Value)(i n ep:Nat):Prop:=∃o,h.get? I=some o/\o.cls=.type "set_iterator"/\o.data=.fields #[first,.int i 0,.ref a,.int n 0,.int ep 0]
section
variable {prog:Program}{w:World}{A:Around}{E:Value->Shared->Prop}{s:Shared}{a:Addr}{ss:List Str}{o:Obj}{es:Array (Int×Value)}{ep:Nat}{t:SetTable}
def ItS.typeIs{I:Addr}{first:Value}{i n:Nat}(h:ItS s.heap I a first i n ep):s.TypeIs (.ref I) "set_iterator":=let ⟨o,h1,h2,_⟩:=h;⟨o,h1,h2⟩
def YZ{M:Model}    (b:n≠0)(h:∀i d,i<n->Q i {s with drawn:=d}):wpAny M A (choose src n) Q E s :=
 λΓ p c=>⟨b,h _ _ (Nat.mod_lt _ (Nat.pos_of_ne_zero b))⟩
theorem xO{α:Type}:∀(l:List α) (i:Nat) (h:i<l.length),(l[i]::l.eraseIdx i).Perm l
 |x::xs,0,_=>.refl _
 |x::xs,i+1,h=>(List.Perm.swap _ _ _).trans ((xO xs i _).cons x)
theorem G5{M:Model}{α:Type}:∀(n:Nat) (xs:List α) (s:Shared) (Q:List α->Shared->Prop),xs.length=n->(∀ys d,ys.Perm xs->Q ys {s with drawn:=d})->wpAny M A (drawOrder n xs) Q E s
 | 0,xs,s,Q,hl,h=>by
  rw[List.length_eq_zero_iff.mp hl] at h;exact zb (h [] s.drawn .nil)
 |n+1,[],s,Q,hl,h=>by cases hl
 |n+1,x::xs,s,Q,hl,h=>by
  unfold drawOrder;refine za (YZ (by simp) λi d b=>?_);rw[zw b];refine za (G5 n _ _ _ ?_ λys f c=>?_)
  ·rw[List.length_eraseIdx_of_lt b];omega
  ·exact zb (h _ f ((c.cons _).trans (xO _ _ b)))
def Y0  (x:dq prog w s.heap a ss o es ep t)
  (h1:(w.params.followText "set-order" = true\/es.size<=1)->Q (.ref s.heap.objs.size) {s with heap:=s.heap.push {cls:=.type "set_iterator",data:=.fields #[.int 0 0,.int 0 0,.ref a,.int es.size 0,.int ep 0]}})
  (h2:w.params.followText "set-order" = false->∀(ps:List Nat) d,ps.Perm (List.range es.size)->Q (.ref (s.heap.objs.size+1)) {s with drawn:=d,heap:=(s.heap.push {cls:=.type "tuple",data:=.seq (ps.map λi=>Value.int (i:Nat) 0).toArray}).push {cls:=.type "set_iterator",data:=.fields #[.ref s.heap.objs.size,.int 0 0,.ref a,.int es.size 0,.int ep 0]}}):
  wpAny (model prog w) A (pyIter (.ref a)) Q E s:=by
 obtain⟨j,u,hd,J,L,I,q,c,G⟩:=x;have C:s.TypeIs (.ref a) "set":=⟨o,j,u.1⟩;refine wpAny_pyIter_slot C PySem.F.slot_set_iter (wpAny_call_entry PySem.F.slot_set_iter C YX ?_);unfold Builtin.«frozenset.__iter__» Builtin.Frozenset.slot0 slotArgs;simp only[List.isEmpty_nil,Bool.not_true,Bool.false_eq_true,↓reduceIte,bind_assoc,zW,bne_self_eq_false];refine za (zb ?_);dsimp only;refine za (zb ?_);refine za (za (wpAny_setEntries_of j hd q (zb ?_)));refine za (za (wpAny_setState_of j hd q ?_));refine za (za (wpAny_askSetting (zb ?_)));refine zb ?_;refine wpAny_ite_split (λb=>?_) (λb=>?_)
 ·change (!w.params.followText "set-order" && (!t.plain&&decide (es.size>1)))=true at b
  have f:w.params.followText "set-order" = false:=by
   cases h:w.params.followText "set-order" with
   |false=>rfl
   |true=>rw[h] at b;cases b
  refine za (G5 _ _ _ _ List.length_range λps d m=>?_)
  have c:ps.length=es.size:=by rw[m.length_eq,List.length_range]
  refine za (wpAny_newTuple ?_ (by rw[zd,c,sizeLine_eq];unfold scanBound at I;omega));have ho':(s.heap.push {cls:=.type "tuple",data:=.seq (ps.map λi=>rawInt (i:Nat)).toArray}).get? a=some o:=zo _ j;refine za (wpAny_setEpoch_of ho' hd q ?_);unfold newFields;refine za (wpAny_newObj_type (zb ⟨_,rfl,"set_iterator",_,⟨_,zy _ rfl,rfl⟩,gU.lookup,?_⟩))
  have:=h2 f ps d m
  rw[Heap.size_push];exact this
 ·change ¬(!w.params.followText "set-order" && (!t.plain&&decide (es.size>1)))=true at b
  have f:w.params.followText "set-order" = true\/es.size<=1:=by
   cases h:w.params.followText "set-order" with
   |true=>exact .inl rfl
   |false =>
    rw[h] at b
    rcases c with y | y
    ·omega
    ·rw[y] at b;simpa using b
  refine za (zb ?_);refine za (wpAny_setEpoch_of j hd q ?_);unfold newFields;exact za (wpAny_newObj_type (zb ⟨_,rfl,"set_iterator",_,⟨_,zy _ rfl,rfl⟩,gU.lookup,h1 f⟩))
def ug{h:Heap}      (c:h.get? I=some o)(hd:o.data=.fields vs):∃b,(h.update I (Obj.mapFields (·.setIfInBounds i x))).get? I=some b/\b.cls=o.cls/\b.data=.fields (vs.setIfInBounds i x):=
 ⟨_,Heap.get?_update_self _ c (Obj.isFreed_of_fields (Obj.data_mapFields hd _)),Obj.cls_mapFields ..,by rw[Obj.data_mapFields hd]⟩
def G6      (b:ItS s.heap I a (.int sl 0) i n ep)(x:dq prog w s.heap a ss o es ep t)(y:es.size=n)
  (hs:∀(T:Around) (j:Option (Value×Nat)->Shared->Prop) (R:Value->Shared->Prop),j (some (v,nx)) s->wpAny (model prog w) T (setNext a sl.toNat i ep) j R s)
  (G:∀h',ItS h' I a (.int nx 0) (i+1) n ep->Heap.SameBut I s.heap h'->Q (some v) {s with heap:=h'}):wpAny (model prog w) A (pyNext (.ref I)) Q E s:=by
 obtain⟨Y,hI,F,c⟩:=id b;obtain⟨u,W,hd,X,hp,hb,C,U,m⟩:=x;unfold pyNext
 refine za (wpAny_attempt (wpAny_callSpecial?_slot (name:=Str.ofString "__next__") b.typeIs gU
  (wpAny_call_entry gU b.typeIs uf ?_ (YT _))))
 unfold Builtin.«set_iterator.__next__» slotArgs;simp only[List.isEmpty_nil,Bool.not_true,Bool.false_eq_true,↓reduceIte,bind_assoc,zW,bne_self_eq_false];refine za (zb ?_);dsimp only;refine za (wpAny_fieldsOf hI c ?_);dsimp only;refine za (wpAny_setEntries_of u hd C ?_);rw[if_neg (by rw[y];simp)];refine za (hs _ _ _ ?_);dsimp only;refine za (wpAny_setField hI c (by simp) ?_);obtain⟨Z,d,P,f⟩:=ug (i:=0) (x:=rawInt (nx:Nat)) hI c;refine za (wpAny_setField (s:={s with heap:=s.heap.update I (Obj.mapFields (·.setIfInBounds 0 (rawInt (nx:Nat))))}) d f (by simp) ?_);obtain⟨q,J,O,L⟩:=ug (i:=1) (x:=rawInt ((i:Int)+1)) d f
 refine zb ⟨_,rfl,zb (G _ ⟨q,J,O.trans (P.trans F),by rw[L];simp[rawInt]⟩ ((Heap.SameBut.update ..).trans (Heap.SameBut.update ..)))⟩
def G7     (q:A.handled=none)(b:ItS s.heap I a (.int sl 0) i n ep)(x:dq prog w s.heap a ss o es ep t)(j:es.size=n)
  (hs:∀(F:Around) (d:Option (Value×Nat)->Shared->Prop) (C:Value->Shared->Prop),d none s->wpAny (model prog w) F (setNext a sl.toNat i ep) d C s)
  (y:∀h',Heap.ExtBut I s.heap h'->Q none {s with heap:=h'}):wpAny (model prog w) A (pyNext (.ref I)) Q E s:=by
 obtain⟨O,hI,R,c⟩:=id b;obtain⟨f,J,hd,L,P,T,u,G⟩:=x
 refine za (wpAny_attempt (wpAny_callSpecial?_slot b.typeIs gU
  (wpAny_call_entry gU b.typeIs uf ?_)))
 refine za (zb ?_);refine za (wpAny_fieldsOf hI c ?_);refine za (wpAny_setEntries_of f hd u ?_);rw[if_neg (by rw[j];simp)];refine za (hs _ _ _ ?_);refine za (wpAny_setField hI c (by simp) ?_);refine za ?_;refine za (m:=firstArgMember _ _) (wpAny_of_eq (by first | rfl | (rfl)) ?_);refine wpAny_newObj_type ?_;refine za (wpAny_handled ?_);rw[(q)];refine za (zb (wpAny_throw ?_));refine za (wpAny_isInstance ⟨_,zy _ rfl,rfl⟩ isSubtype_stop ?_);exact zb (y _ (((Heap.SameBut.update ..).extBut.push _).push _))
def Y4         (b:ItS s.heap I a (.ref T) i n ep)(x:dq prog w s.heap a ss o es ep t)(q:es.size=n)
  (C:s.heap.get? T=some oT) (d:oT.data=.seq vs Y) (hv:vs[i]?=some (.int (p:Nat) 0)) (u:es[p]?=some (hs,v))
  (F:∀h',ItS h' I a (.ref T) (i+1) n ep->Heap.SameBut I s.heap h'->Q (some v) {s with heap:=h'}):wpAny (model prog w) A (pyNext (.ref I)) Q E s:=by
 obtain⟨U,hI,y,c⟩:=id b;obtain⟨f,P,hd,R,W,X,j,O⟩:=x
 refine za (wpAny_attempt (wpAny_callSpecial?_slot b.typeIs gU
  (wpAny_call_entry gU b.typeIs uf ?_)))
 refine za (zb ?_);refine za (wpAny_fieldsOf hI c ?_);refine za (wpAny_setEntries_of f hd j ?_);rw[if_neg (by rw[q];simp)];refine za (wpAny_seqItems C d ?_);dsimp only;rw[show(i:Int).toNat=i from rfl,hv];refine za (za (wpAny_setState_of f hd j ?_));dsimp only;rw[if_neg (by simp)];rw[show(p:Int).toNat=p from rfl,u];refine zb ?_;refine za (wpAny_setField hI c (by simp) ?_);obtain⟨m,G,L,J⟩:=ug hI c;exact zb ⟨_,rfl,zb (F _ ⟨m,G,L.trans y,by rw[J];simp[rawInt]⟩ (Heap.SameBut.update ..))⟩
def Y5       (u:A.handled=none)(b:ItS s.heap I a (.ref T) i n ep)(x:dq prog w s.heap a ss o es ep t)(q:es.size=n)
  (C:s.heap.get? T=some oT) (d:oT.data=.seq vs nT) (hv:vs[i]?=none)
  (F:∀h',Heap.ExtBut I s.heap h'->Q none {s with heap:=h'}):wpAny (model prog w) A (pyNext (.ref I)) Q E s:=by
 obtain⟨R,hI,X,c⟩:=id b;obtain⟨j,O,hd,P,W,Y,y,L,f⟩:=x
 refine za (wpAny_attempt (wpAny_callSpecial?_slot b.typeIs gU
  (wpAny_call_entry gU b.typeIs uf ?_)))
 refine za (zb ?_);refine za (wpAny_fieldsOf hI c ?_);refine za (wpAny_setEntries_of j hd y ?_);rw[if_neg (by rw[q];simp)];refine za (wpAny_seqItems C d ?_);dsimp only;rw[show(i:Int).toNat=i from rfl,hv];refine za (wpAny_setField hI c (by simp) ?_);obtain⟨U,G,Z,J⟩:=ug hI c;refine za (wpAny_setField G J (by simp) ?_);refine za ?_;refine za (m:=firstArgMember _ _) (wpAny_of_eq (by first | rfl | (rfl)) ?_);refine wpAny_newObj_type ?_;refine za (wpAny_handled ?_);rw[(u)];refine za (zb (wpAny_throw ?_));refine za (wpAny_isInstance ⟨_,zy _ rfl,rfl⟩ isSubtype_stop ?_)
 exact zb (F _ ((((Heap.SameBut.update ..).trans (Heap.SameBut.update ..)).extBut.push _).push _))
def xP     (b:ItS s.heap I a first i n ep)(h:Q (.ref I) s):wpAny (model prog w) A (pyIter (.ref I)) Q E s:=by
 refine wpAny_pyIter_slot b.typeIs G4 (wpAny_call_entry G4 b.typeIs YW ?_);exact zb ⟨_,rfl,"set_iterator",_,b.typeIs,gU.lookup,h⟩
def G8     (x:dq prog w s.heap a ss o es ep t)(b:w.params.followText "set-order" = true)
  (h:y (((pickOrder (w.params.setOrder a ep) es)[i]?).map λe=>(e.2,sl)) s):wpAny (model prog w) F (setNext a sl i ep) y C s:=by
 obtain⟨c,j,hd,m,q,u,d,f⟩:=x;refine za (wpAny_setState_of c hd d ?_);refine za (za (wpAny_askSetting (zb ?_)));rw[if_pos (show(⟨(model _ w).prog,(model _ w).w.params⟩:Setting).params.followText _=true from b)];rw[if_neg (by simp)];refine za (za (wpAny_setState_of c hd d ?_));refine za (za (wpAny_askSetting (zb ?_)));rw[if_pos (show(⟨(model _ w).prog,(model _ w).w.params⟩:Setting).params.followText _=true from b)];exact za (wpAny_askSetting (zb (zb h)))
def G9      (x:dq prog w s.heap a ss o es ep t)(b:w.params.followText "set-order" = false)(h1:es.size<=1)
  (h:I (match es[SetTable.below t.place sl]?,t.place[SetTable.below t.place sl]? with | some (_,x),some j=>some (x,j+1) | _,_=>none) s):wpAny (model prog w) J (setNext a sl i ep) I L s:=by
 obtain⟨m,y,hd,C,F,G,q,u,c⟩:=x
 have f:t.led=true:=by rw[c,b];rfl
 refine za (wpAny_setState_of m hd q ?_);refine za (za (wpAny_askSetting (zb ?_)));rw[if_neg (λz=>by have:=b.symm.trans z;cases this)]
 refine wpAny_ite_split (λd=>?_) λd=>?_
 ·change (!t.plain&&decide _)=true at d
  rw[zx,decide_eq_true_eq] at d;omega
 ·refine za ?_;show wpAny _ J (if(!t.led && !es.isEmpty)=true then unsupported _ else pure ()) _ _ _;rw[if_neg (by rw[f];simp)];refine zb ?_;exact zb h
theorem Ha  (next:Nat->Nat):∀(fuel k:Nat) (left:List α) (out:Array α),left.length=fuel->(pickOrder.go next fuel k left out).toList.Perm (out.toList++left)
 | 0,k,left,out,h=>by
  rw[List.length_eq_zero_iff.mp h];unfold pickOrder.go;simp
 |fuel+1,k,left,out,h=>by
  unfold pickOrder.go;have b:next k % left.length<left.length:=Nat.mod_lt _ (by omega);rw[zw b];refine(Ha _ _ _ _ _ (by rw[List.length_eraseIdx_of_lt b];omega)).trans ?_;rw[Array.toList_push,zH];exact List.Perm.append_left _ (xO _ _ b)
def qe  (next:Nat->Nat)(xs:Array α):(pickOrder next xs).toList.Perm xs.toList:=by
 have:=Ha next xs.size 0 _ #[] Array.length_toList
 simpa
def map_range{α:Type}(xs:Array α)(ps:List Nat)(h:ps.Perm (List.range xs.size)):∃ys:List α,ys.Perm xs.toList/\ps.length=ys.length/\∀(i p:Nat),ps[i]?=some p->xs[p]?=ys[i]?:=by
 have c:∀p∈ps,p<xs.size:=λp j=>List.mem_range.mp (h.mem_iff.mp j)
 refine⟨ps.filterMap λp=>xs[p]?,?_,?_,?_⟩
 ·refine(h.filterMap _).trans ?_
  have :=by
   have e:∀l:List α,(List.range l.length).filterMap (λp=>l[p]?)=l:=λl=>by
    induction l with
    |nil=>rfl
    |cons  =>
     rw[zz,List.range_succ_eq_map,List.filterMap_cons];simp;congr 1
   have:=e xs.toList
   simpa
  rw[this]
 ·have e:∀l:List _,(∀p∈l,p<xs.size)->l.length=(l.filterMap λp=>xs[p]?).length:=λl=>by
   induction l with
   |nil=>intro _;rfl
   |cons p l ih =>
    intro b;rw[List.filterMap_cons,Array.getElem?_eq_getElem (b p ze)];rw[zz,zz, ih λq f=>b q (zp _ f)]
  exact e ps c
 ·have e:∀(l:List _),(∀p∈l,p<xs.size)->∀(i p:Nat),l[i]?=some p->xs[p]?=(l.filterMap λp=>xs[p]?)[i]?:=λl=>by
   induction l with
   |nil=>intro _ i p d;cases d
   |cons q l ih =>
    intro b i p d;rw[List.filterMap_cons,Array.getElem?_eq_getElem (b q ze)]
    cases i with
    |zero =>
     cases d;rw[Array.getElem?_eq_getElem];rfl
    |succ i=>exact ih (λq f=>b q (zp _ f)) i p d
  exact e ps c
end
def PSt(xs:List Str)(i:Nat)(v:Value):Prop:=∃x t,xs[i]?=some x/\v=.str x t
section
variable {prog:Program}{w:World}{A:Around}{E:Value->Shared->Prop}{s:Shared}{a:Addr}{ss:List Str}{o:Obj}{es:Array (Int×Value)}{ep:Nat}{t:SetTable}
def ItS.at{h h':Heap}{I:Addr}{first:Value}{i n:Nat}(x:ItS h I a first i n ep)(e:∀o,h.get? I=some o->h'.get? I=some o):ItS h' I a first i n ep:=let ⟨o,ho,r⟩:=x;⟨o,e _ ho,r⟩
def dq.at{h h':Heap}(x:dq prog w h a ss o es ep t)(e:∀o,h.get? a=some o->h'.get? a=some o):dq prog w h' a ss o es ep t:=⟨e _ x.1,x.2⟩
def xQ   (e:Heap.SameBut I s.heap h'):Moved [I] Eq s {s with heap:=h'}:=⟨λb o c q=>(e.2 b λz=>c (by rw[z];exact zm.mpr rfl)).trans q,rfl,rfl,rfl,zc _⟩
def xR   (e:Heap.ExtBut I s.heap h'):Moved [I] Eq s {s with heap:=h'}:=⟨λb o c q=>e b o (λz=>c (by rw[z];exact zm.mpr rfl)) q,rfl,rfl,rfl,zc _⟩
def xT{s:Shared}{x:dq prog w s.heap a ss o es ep t}{l:List (Int×Value)}(f:l.Perm es.toList)   (c:l[i]?=some e):PSt (l.map λe=>strOf e.2) i e.2:=by
 obtain⟨⟨k,j,_⟩⟩:=x.2.2.2.1 e (f.mem_iff.mp (zL c));obtain⟨d,b⟩:=Value.isStrOf_shape j;exact⟨k,d,by rw[zE,c,Option.map_some,b];rfl,b⟩
def Y6  (hh:A.handled=none)(hne:a≠I)(hft:w.params.followText "set-order" = true):
  WalksS prog w A I [I,a] [I] Eq es.size (PSt ((pickOrder (w.params.setOrder a ep) es).toList.map λe=>strOf e.2)) (λi s=>ItS s.heap I a (.int 0 0) i es.size ep/\dq prog w s.heap a ss o es ep t) where
 sub:=by simp
 grefl:=λ_=>rfl
 gtrans:=λ_ _ _ h1 h2=>h1.trans h2
 frame:=λi s h' tk st _ k=>⟨st.1.at λo e=>k I (by simp) o e,st.2.at λo e=>k a (by simp) o e⟩
 item:=λi s Q E hi st hQ=>by
  have hsz:(pickOrder (w.params.setOrder a ep) es).size=es.size:=by rw[<-Array.length_toList,(qe _ es).length_eq,Array.length_toList]
  have he:(pickOrder (w.params.setOrder a ep) es)[i]?=some ((pickOrder (w.params.setOrder a ep) es)[i]'(by omega)):=Array.getElem?_eq_getElem (by omega)
  refine G6 (nx:=0) st.1 st.2 rfl (λA' Q' E' q=>G8 st.2 hft (by rw[he];exact q)) λh' it' sb=>hQ _ _ ?_ ⟨it',st.2.at λo e=>(sb.2 a hne).trans e⟩ (xQ sb)
  exact xT (x:=st.2) (qe _ es) (by rw[Array.getElem?_toList];exact he)
 done:=λs Q E st hQ=>by
  have hsz:(pickOrder (w.params.setOrder a ep) es).size=es.size:=by rw[<-Array.length_toList,(qe _ es).length_eq,Array.length_toList]
  have he:(pickOrder (w.params.setOrder a ep) es)[es.size]?=none:=Array.getElem?_eq_none (by omega)
  exact G7 hh st.1 st.2 rfl (λA' Q' E' q=>G8 st.2 hft (by rw[he];exact q)) λh' e=>hQ _ (xR e)
 self:=λi s Q E st h=>xP st.1 h
def Hb(j k:Nat):SetTable.below #[j] k=if j<k then 1 else 0:=by
 show SetTable.below.go _ k 1 0 1=_;rfl
def Y7    (hh:A.handled=none)(hne:a≠I)(hft:w.params.followText "set-order" = false)(hes:es = #[e])(hj:t.place = #[j]):
  WalksS prog w A I [I,a] [I] Eq 1 (PSt (es.toList.map λe=>strOf e.2)) (λi s=>ItS s.heap I a (.int (if i=0 then 0 else((j+1:Nat):Int)) 0) i 1 ep/\dq prog w s.heap a ss o es ep t) where
 sub:=by simp
 grefl:=λ_=>rfl
 gtrans:=λ_ _ _ h1 h2=>h1.trans h2
 frame:=λi s h' tk st _ k=>⟨st.1.at λo e=>k I (by simp) o e,st.2.at λo e=>k a (by simp) o e⟩
 item:=λi s Q E hi st hQ=>by
  have hi0:i=0:=by omega
  subst hi0
  refine G6 (nx:=j+1) (v:=e.2) st.1 st.2 (by rw[hes];rfl) (λA' Q' E' q=>G9 st.2 hft (by rw[hes];exact zc _) ?_) λh' it' sb=>hQ _ _ ?_ ⟨it',st.2.at λo e=>(sb.2 a hne).trans e⟩ (xQ sb)
  ·rw[hj,show(if(0:Nat)=0 then(0:Int) else((j+1:Nat):Int)).toNat=0 from rfl,Hb,if_neg (Nat.not_lt_zero _),hes];exact q
  ·exact xT (x:=st.2) (.refl _) (e:=e) (by rw[hes];rfl)
 done:=λs Q E st hQ=>by
  refine G7 hh st.1 st.2 (by rw[hes];rfl) (λA' Q' E' q=>G9 st.2 hft (by rw[hes];exact zc _) ?_) λh' e=>hQ _ (xR e)
  rw[hj,show(if(1:Nat)=0 then(0:Int) else((j+1:Nat):Int)).toNat=j+1 from rfl,Hb,if_pos (jb _),hes];exact q
 self:=λi s Q E st h=>xP st.1 h
def Y8   {ps:List Nat}  {ys:List (Int×Value)}(hh:A.handled=none)(hne:a≠I)(hnT:T≠I)(hTd:oT.data=.seq (ps.map λi=>Value.int (i:Nat) 0).toArray nT)
  (hy:ys.Perm es.toList) (hl:ps.length=es.size) (hp:∀(i p:Nat),ps[i]?=some p->es[p]?=ys[i]?):
  WalksS prog w A I [I,a,T] [I] Eq es.size (PSt (ys.map λe=>strOf e.2)) (λi s=>ItS s.heap I a (.ref T) i es.size ep/\dq prog w s.heap a ss o es ep t/\s.heap.get? T=some oT) where
 sub:=by simp
 grefl:=λ_=>rfl
 gtrans:=λ_ _ _ h1 h2=>h1.trans h2
 frame:=λi s h' tk st _ k=>⟨st.1.at λo e=>k I (by simp) o e,st.2.1.at λo e=>k a (by simp) o e,k T (by simp) _ st.2.2⟩
 item:=λi s Q E hi st hQ=>by
  have hi':i<ps.length:=by omega
  have e1:=zw hi'
  have hyl:ys.length=es.size:=by rw[hy.length_eq,Array.length_toList]
  have e2:=zw (l:=ys) (i:=i) (by omega);have e3:=(hp i _ e1).trans e2
  refine Y4 (hs:=_) st.1 st.2.1 rfl st.2.2 hTd (p:=ps[i]) ?_ (v:=(ys[i]'(by omega)).2) e3 λh' it' sb=>hQ _ _ ?_ ⟨it',st.2.1.at λo e=>(sb.2 a hne).trans e,(sb.2 T hnT).trans st.2.2⟩ (xQ sb)
  ·rw[List.getElem?_toArray,zE,e1];rfl
  ·exact xT (x:=st.2.1) hy e2
 done:=λs Q E st hQ=>by
  refine Y5 hh st.1 st.2.1 rfl st.2.2 hTd ?_ λh' e=>hQ _ (xR e)
  rw[List.getElem?_toArray,zE,jr (by omega)];rfl
 self:=λi s Q E st h=>xP st.1 h
def Y9{s:Shared}  (J:A.handled=none)(Z:cR prog w s.heap a ss)(O:ss≠[])
  (h:∀(y:Shared) (I:Addr) (fp:List Addr) (St:Nat->Shared->Prop) (xs:List Str),(∀b o,s.heap.get? b=some o->y.heap.get? b=some o)->y.gens=s.gens->y.os=s.os->y.toks=s.toks->xs.Perm ss->s.heap.objs.size<=I ->
   (∀b∈fp,b=a\/s.heap.objs.size<=b)->WalksS prog w A I fp [I] Eq xs.length (PSt xs) St->St 0 y->Q (.ref I) y):wpAny (model prog w) A (pyIter (.ref a)) Q E s:=by
 obtain⟨o,es,ep,t,x⟩:=Z;have u:=zj x.1
 have hlen:es.size=ss.length:=by rw[<-x.2.2.2.2.1.length_eq];unfold lZ;rw[zd,Array.length_toList]
 have T:0<es.size:=by rw[hlen];exact List.length_pos_iff.mpr O
 refine Y0 x (λC=>?_) (λq ps d f=>?_)
 ·have R:dq prog w (s.heap.push {cls:=.type "set_iterator",data:=.fields #[.int 0 0,.int 0 0,.ref a,.int es.size 0,.int ep 0]}) a ss o es ep t:=x.at λo e=>zo _ e
  cases q:w.params.followText "set-order" with
  |true =>
   have W:=Y6 (prog:=prog) (o:=o) (ss:=ss) (es:=es) (ep:=ep) (t:=t) J (zq u) q;refine h _ _ [s.heap.objs.size,a] (λi m=>ItS m.heap s.heap.objs.size a (.int 0 0) i es.size ep/\dq prog w m.heap a ss o es ep t) ((pickOrder (w.params.setOrder a ep) es).toList.map _) (λb o e=>zo _ e) rfl rfl rfl (((qe _ es).map _).trans ((x.2.2.2.2.1))) (zc _) (λb c=>?_) ?_ ⟨⟨_,zy _ rfl,rfl,rfl⟩,R⟩
   ·rcases zl.mp c with rfl | c
    ·exact .inr (zc _)
    ·exact .inl (zm.mp c)
   ·rw[zd,(qe _ es).length_eq,Array.length_toList];exact W
  |false =>
   have h1:es.size=1:=by
    rcases C with C | C
    ·rw[q] at C;cases C
    ·omega
   obtain⟨e,P⟩:∃e,es = #[e]:=by
    obtain⟨l⟩:=es
    match l,h1 with
    | [e],_=>exact⟨e,rfl⟩
   have F:=x.2.2.2.2.2.2.1
   obtain⟨j,Y⟩:∃j,t.place = #[j]:=by
    have f:t.place.size=1:=by
     simp only[SetTable.fits,zx,beq_iff_eq] at F;omega
    revert f
    generalize t.place=U
    intro f;obtain⟨l⟩:=U
    match l,f with
    | [j],_=>exact⟨j,rfl⟩
   have W:=Y7 (prog:=prog) (o:=o) (ss:=ss) (ep:=ep) J (zq u) q P Y;refine h _ _ [s.heap.objs.size,a] (λi m=>ItS m.heap s.heap.objs.size a (.int (if i=0 then 0 else((j+1:Nat):Int)) 0) i 1 ep/\dq prog w m.heap a ss o es ep t) (es.toList.map _) (λb o e=>zo _ e) rfl rfl rfl ((x.2.2.2.2.1)) (zc _) (λb c=>?_) ?_ ⟨⟨_,zy _ rfl,rfl,by rw[h1];rfl⟩,R⟩
   ·rcases zl.mp c with rfl | c
    ·exact .inr (zc _)
    ·exact .inl (zm.mp c)
   ·rw[zd,Array.length_toList,h1];exact W
 ·obtain⟨ys,G,hl,X⟩:=map_range es ps f
  have hl':ps.length=es.size:=by rw[f.length_eq,List.length_range]
  have L:(s.heap.push {cls:=.type "tuple",data:=.seq (ps.map λi=>Value.int (i:Nat) 0).toArray}).objs.size=s.heap.objs.size+1:=Heap.size_push _ _;have W:=Y8 (prog:=prog) (w:=w) (A:=A) (a:=a) (ss:=ss) (o:=o) (ep:=ep) (t:=t) (oT:={cls:=.type "tuple",data:=.seq _}) (ps:=ps) J (zq (jg u)) (zq (jb _)) rfl G hl' X;refine h _ _ [s.heap.objs.size+1,a,s.heap.objs.size] (λi m=>ItS m.heap (s.heap.objs.size+1) a (.ref s.heap.objs.size) i es.size ep/\dq prog w m.heap a ss o es ep t/\m.heap.get? s.heap.objs.size=some _) _ (λb o e=>zo _ (zo _ e)) rfl rfl rfl ((G.map _).trans ((x.2.2.2.2.1))) (Nat.le_succ _) (λb c=>?_) ?_ ⟨⟨_,by rw[<-L];exact zy _ rfl,rfl,rfl⟩,x.at λo e=>zo _ (zo _ e),zo _ (zy _ rfl)⟩
  ·rcases zl.mp c with rfl | c
   ·exact .inr (Nat.le_succ _)
   ·rcases zl.mp c with rfl | c
    ·exact .inl rfl
    ·exact .inr (by rw[zm.mp c];exact zc _)
  ·rw[zd,G.length_eq,Array.length_toList];exact W
def Za   (c:s.TypeIs (.ref r) "set")(h:Q false s):wpAny (model prog w) A (Builtin.List.listLengthHint (.ref r)) Q E s:=by
 refine za (wpAny_specialOf c PySem.F.slot_set_len.lookup ?_)
 generalize hid:"set.__len__" = id0
 subst hid;refine za (wpAny_isInstance (b:=true) c (by kernel_rfl) ?_);refine za (wpAny_typeOf c ?_);exact zb h
def Zb:∀{xs:List Str}{b:Array Value},ItemsOf (PSt xs) b xs.length->StrsAre b.toList xs:=by
 intro xs b h
 have e:∀(c ) (xs ),c.length=xs.length->(∀i v,c[i]?=some v->PSt xs i v)->StrsAre c xs:=λc=>by
  induction c with
  |nil=>intro xs f _;cases xs with
   |nil=>exact .nil
   |cons =>cases f
  |cons v c ih =>
   intro xs f d
   cases xs with
   |nil=>cases f
   |cons x xs =>
    obtain⟨y,t,m,j⟩:=d 0 v rfl;cases m;subst j;refine .cons x t (ih xs (Nat.succ.inj f) λi u C=>?_);obtain⟨y,q,m,j⟩:=d (i+1) u C;exact⟨y,q,m,j⟩
 refine e _ _ ?_ λi v d=>?_
 ·exact h.1
 ·rw[Array.getElem?_toList] at d;exact h.2 i v d
def Zc  (hh:A.handled=none)(hS:cR prog w s.heap a ss)(hne:ss≠[])
  (h:∀(c:Shared) (acc:List Value) (xs:List Str),(∀b o,s.heap.get? b=some o->c.heap.get? b=some o)->c.gens=s.gens->c.os=s.os->s.heap.objs.size<c.heap.objs.size->StrsAre acc xs->xs.Perm ss->R acc c):
  wpAny (model prog w) A (collect (.ref a)) R E s:=by
 have Z:a<s.heap.objs.size:=by obtain⟨_,_,_,_,x⟩:=hS;exact zj x.1
 unfold collect;refine za (wpAny_runValue (zZ entry_proto_collect' ?_));rw[Around.under_plainId PySem.F.plain_proto_collect _];refine za (wpAny_newObj_type ?_);refine zb ⟨plainId_quiet PySem.F.plain_list_iadd _,zZ entry_list_iadd' ?_⟩;rw[Around.under_plainId PySem.F.plain_list_iadd _];have P:(s.heap.push {cls:=.type "list",data:=.seq ([]:List Value).toArray}).get? s.heap.objs.size=some {cls:=.type "list",data:=.seq #[]}:=zy _ rfl
 have C:cR prog w (s.heap.push {cls:=.type "list",data:=.seq ([]:List Value).toArray}) a ss:=hS.at λo e=>zo _ e
 show wpAny _ A.in1 (Builtin.List.listExtendWith (.ref s.heap.objs.size) (.ref a) (.ref s.heap.objs.size)) _ _ _;unfold Builtin.List.listExtendWith
 have hT:Shared.TypeIs {s with heap:=s.heap.push {cls:=.type "list",data:=.seq ([]:List Value).toArray}} (.ref a) "set":=by
  obtain⟨o,_,_,_,x⟩:=C;exact⟨o,x.1,x.2.1.1⟩
 refine za (wpAny_typeOf (T:="set") hT ?_)
 have h1:Builtin.List.listSameRef (.ref s.heap.objs.size) (.ref a)=false:=by simp[Builtin.List.listSameRef,Nat.ne_of_gt Z]
 simp only[h1,show(Value.type "set" == Value.type "list")=false by decide,show(Value.type "set" == Value.type "tuple")=false by decide,Bool.or_false,Bool.false_eq_true,if_false];refine za (Y9 (by simp[hh]) C hne λu I fp St xs k eg eo et hp hI hfp W st=>?_);have L:=k _ _ P;have hsz:(s.heap.push {cls:=.type "list",data:=.seq ([]:List Value).toArray}).objs.size=s.heap.objs.size+1:=Heap.size_push _ _
 have G:s.heap.objs.size∉fp:=λm=>by
  rcases hfp _ m with z | z
  ·exact Nat.ne_of_gt Z z
  ·change (s.heap.push {cls:=.type "list",data:=.seq ([]:List Value).toArray}).objs.size<=_ at z
   omega
 have hn:xs.length<=sizeLine:=by
  have:=hS.len
  rw[hp.length_eq,sizeLine_eq];unfold scanBound at this;omega
 refine za (zP (Za ?_ ?_))
 ·obtain⟨o,ho,hc⟩:=hT;exact⟨o,k _ _ ho,hc⟩
 have fin:∀(c:Shared) (d:Array Value) (Q:Nat),(∀b o,s.heap.get? b=some o->c.heap.get? b=some o)->c.gens=s.gens->c.os=s.os->s.toks<=c.toks->c.heap.get? s.heap.objs.size=some {cls:=.type "list",dict:=none,data:=.seq d Q,slots:=#[]}->ItemsOf (PSt xs) d xs.length ->
   wpAny (model prog w) A (load s.heap.objs.size >>= λo=>match o.data with | .seq xs _=>pure xs.toList | _=>unsupported "internal:collect") R E c:=λc d Q Y X U e4 e5 e6 =>
  za (wpAny_load e5 (zb (h c _ xs Y X U (zj e5) (Zb e6) hp)))
 have kk:∀(c:Shared) (h2:Heap),(∀b o,b≠s.heap.objs.size->u.heap.get? b=some o->h2.get? b=some o)->Moved (s.heap.objs.size :: [I]) Eq {u with heap:=h2} c->(∀b o,s.heap.get? b=some o->c.heap.get? b=some o)/\c.gens=s.gens/\c.os=s.os/\s.toks<=c.toks:=λc h2 q m=>by
  refine⟨λb o e=>?_,?_,m.os.trans eo,?_⟩
  ·have y:=zj e;refine m.heap b o (λz=>?_) (q b o (zq y) (k b o (zo _ e)))
   rcases zl.mp z with z | z
   ·exact zq y z
   ·have z':=zm.mp z;rw[<-z',hsz] at hI;exact absurd y (Nat.not_lt.mpr (Nat.le_of_succ_le hI))
  ·exact m.gens.symm.trans eg
  ·have:=m.toks
   have et':u.toks=s.toks:=et;rw[<-et'];exact this
 refine wpAny_ite_split (λ_=>?_) (λ_=>zb ⟨plainId_quiet PySem.F.plain_extend_loop _,?_⟩)
 ·refine za (zY ?_);refine za ?_;refine za (js L rfl ?_);have j:=Heap.get?_update_self (Obj.mapSeq (·.push Value.none)) L rfl;refine js (hz:=by seq_fits) j rfl ?_;have O:=Heap.get?_update_self (Obj.mapSeq (·.pop)) j rfl
  have hk:∀b o,b≠s.heap.objs.size->u.heap.get? b=some o->((u.heap.update s.heap.objs.size (Obj.mapSeq (·.push Value.none))).update s.heap.objs.size (Obj.mapSeq (·.pop))).get? b=some o:=λb o y e =>
   (jp _ _ (Ne.symm y)).trans ((jp _ _ (Ne.symm y)).trans e)
  refine zb ⟨plainId_quiet PySem.F.plain_extend_loop _,?_⟩
  refine codeAny_extend_loopS W hn s.heap.objs.size G (.ref s.heap.objs.size) xs.length 0 _ #[] _ rfl (Nat.zero_le _) ?_ O (ItemsOf.nil _) λc d Q m J f=>?_
  ·exact W.frame 0 u _ u.toks st (zc _) λb y o e=>hk b o (λz=>G (z ▸ y)) e
  ·obtain⟨Y,X,U,e4⟩:=kk c _ hk m;exact fin c d Q Y X U e4 J f
 ·refine codeAny_extend_loopS W hn s.heap.objs.size G (.ref s.heap.objs.size) xs.length 0 _ #[] _ rfl (Nat.zero_le _) st L (ItemsOf.nil _) λc d Q m J f=>?_
  obtain⟨Y,X,U,e4⟩:=kk c u.heap (λb o _ e=>e) m;exact fin c d Q Y X U e4 J f
def Zd{s:Shared}  (P:A.handled=none)(T:cR prog w s.heap a ss)(y:ss≠[])(Y:ss.length<64)
  (h:∀(u:Shared) (D:Addr) (c:Nat) (out:List Value) (d:List Str),(∀b o,s.heap.get? b=some o->u.heap.get? b=some o)->u.gens=s.gens->u.os=s.os->s.heap.objs.size<=D->u.heap.get? D=some (seqObj "list" out.toArray c) ->
   StrsAre out d->d.Perm ss->sortedS d=true->Q (.ref D) u):
  wpAny (model prog w) A (call (.builtin "sorted") [.ref a]) Q E s:=by
 refine Calls.call_function_entry kind_sorted plain_sorted entry_sorted (args_sorted1 _) ?_;unfold Builtin.«sorted»;refine za (m:=checkCount "sorted" 1 1 _) (zb ?_);refine za (Zc (by simp[P]) T y λf vs Z k X W U j C=>?_)
 have hlen:vs.length=ss.length:=by rw[<-C.length_eq,<-j.strs,zd]
 refine za (wpAny_newList ?_ (by rw[sizeLine_eq];omega));have q:(f.heap.push (seqObj "list" vs.toArray 0)).get? f.heap.objs.size=some (seqObj "list" vs.toArray 0):=zy _ rfl;show wpAny _ _ _ _ _ {f with heap:=f.heap.push (seqObj "list" vs.toArray 0)};refine za (zP (wpAny_call_entry slot_list_sort ⟨_,q,rfl⟩ entry_list_sort (list_sort_treeK (s:={f with heap:=f.heap.push (seqObj "list" vs.toArray 0)}) strKind_oneLt q j.keysOf (λI G rest e=>keyKind_strs (by rw[<-e];exact j)) (by omega) λx a1 a2=>⟨_,rfl,?_⟩) (args_list_sort _)));obtain⟨d,O,L,J⟩:=sorted_out_str j a1 a2
 obtain⟨c,R⟩:=sortedHeap_at (vs:=vs) (out:=((arrOf x).map (·.2))) q;refine zb ⟨_,rfl,h _ f.heap.objs.size c _ d (λb o e=>?_) X W ?_ (by rw[Array.toArray_toList];exact R) O (L.trans C) J⟩
 ·have F:=zj (k b o e);show(sortedHeap (f.heap.push (seqObj "list" vs.toArray 0)) f.heap.objs.size vs ((arrOf x).map (·.2))).get? b=some o;rw[sortedHeap_old (zq F) (by rw[size_push'];exact jg F)];exact zo _ (k b o e)
 ·exact Nat.le_of_lt U
end
def xU{a:List Nat}(h:¬b<a):a<b\/a=b:=by
 by_cases q:a<b
 ·exact .inl q
 ·exact .inr (List.le_antisymm (List.not_lt.mp h) (List.not_lt.mp q))
def lq(x:List Nat):List (List Nat)->List (List Nat)
 | []=>[x]
 |y::r=>if x<y then x::y::r else if x=y then y::r else y::lq x r
def jM(l:List (List Nat)):List (List Nat):=l.foldr lq []
def stepT(ss:List (List Nat))(x:List Nat):List (List Nat):=if x∈ss then ss else ss++[x]
theorem xV(x y:List Nat):∀l,y∈lq x l↔y=x\/y∈l
 | []=>by simp[lq]
 |z::r=>by
  unfold lq
  split
  ·simp
  ·split
   ·rename_i e;subst e;simp
   ·rw[zl,xV ,zl];constructor
    ·rintro(h | h | h)
     ·exact .inr (.inl h)
     ·exact .inl h
     ·exact .inr (.inr h)
    ·rintro(h | h | h)
     ·exact .inr (.inl h)
     ·exact .inl h
     ·exact .inr (.inr h)
theorem Hc(x:List Nat):∀l,l.Pairwise (· < ·)->(lq x l).Pairwise (· < ·)
 | [],_=>List.pairwise_singleton _ _
 |y::r,h=>by
  obtain⟨h1,h2⟩:=List.pairwise_cons.mp h;unfold lq
  split
  ·rename_i c;refine List.pairwise_cons.mpr ⟨λz b=>?_,h⟩
   rcases zl.mp b with rfl | b
   ·exact c
   ·exact List.lt_trans c (h1 z b)
  ·split
   ·exact h
   ·rename_i d f;refine List.pairwise_cons.mpr ⟨λz b=>?_,Hc x r h2⟩
    rcases(xV x z r).mp b with rfl | b
    ·rcases xU d with q | q
     ·exact q
     ·exact absurd q.symm f
    ·exact h1 z b
theorem xW:∀l,(jM l).Pairwise (· < ·)
 | []=>.nil
 |x::l=>Hc x _ (xW l)
theorem uh(y:List Nat):∀l,y∈jM l↔y∈l
 | []=>Iff.rfl
 |x::l=>by
  show y∈lq x (jM l)↔_;rw[xV,uh ,zl]
theorem Hd:∀(l1 b:List (List Nat)),l1.Pairwise (· < ·)->b.Pairwise (· < ·)->(∀x,x∈l1↔x∈b)->l1=b
 | [],[],_,_,_=>rfl
 | [],y::b,_,_,h=>nomatch (h y).mpr ze
 |x::l1,[],_,_,h=>nomatch (h x).mp ze
 |x::l1,y::b,h1,h2,h=>by
  obtain⟨a1,a2⟩:=List.pairwise_cons.mp h1;obtain⟨d,f⟩:=List.pairwise_cons.mp h2
  have e:x=y:=by
   rcases zl.mp ((h x).mp ze) with e | e
   ·exact e
   ·rcases zl.mp ((h y).mpr ze) with q | q
    ·exact q.symm
    ·exact absurd (List.lt_trans (d x e) (a1 y q)) (List.lt_irrefl y)
  subst e;rw[Hd l1 b a2 f λz=>?_];constructor
  ·intro c
   rcases zl.mp ((h z).mp (zp _ c)) with q | q
   ·subst q;exact absurd (a1 z c) (List.lt_irrefl z)
   ·exact q
  ·intro c
   rcases zl.mp ((h z).mpr (zp _ c)) with q | q
   ·subst q;exact absurd (d z c) (List.lt_irrefl z)
   ·exact q
def Ze(l:List (List Nat))(x:List Nat):eX (l.map S) (S x)=(stepT l x).map S:=by
 unfold eX stepT
 by_cases h:x∈l
 ·rw[if_pos h,if_pos (zA.mpr ⟨x,h,rfl⟩)]
 ·rw[if_neg h,if_neg λz=>?_,zN];rfl;obtain⟨y,b,e⟩:=zA.mp z;rw[pQ e] at b;exact h b
theorem um:∀(xs b:List (List Nat)),(xs.map S).foldl eX (b.map S)=(xs.foldl stepT b).map S
 | [],b=>rfl
 |x::xs,b=>by
  rw[zg,List.foldl_cons,Ze];exact um xs _
theorem uo(y:List Nat):∀(xs b:List (List Nat)),y∈xs.foldl stepT b↔y∈b\/y∈xs
 | [],b=>by simp
 |x::xs,b=>by
  rw[List.foldl_cons,uo ];unfold stepT
  split
  ·rename_i h;constructor
   ·rintro(q | q)
    ·exact .inl q
    ·exact .inr (zp _ q)
   ·rintro(q | q)
    ·exact .inl q
    ·rcases zl.mp q with rfl | q
     ·exact .inl h
     ·exact .inr q
  ·rw[zB,zm,zl,or_assoc]
theorem xX:∀(xs c:List (List Nat)),c.Nodup->(xs.foldl stepT c).Nodup
 | [],c,h=>h
 |x::xs,c,h=>by
  refine xX xs _ ?_;unfold stepT
  split
  ·exact h
  ·rename_i hx;rw[jo];refine⟨h,by simp,λa f b d=>?_⟩;rw[zm] at d;subst d;intro e;subst e;exact hx f
theorem Hf:∀(l:List Str),sortedS l=true->(l.map λx=>x.cps.toList).Pairwise (λa b=>¬b<a)
 | [],_=>.nil
 | [x],_=>List.pairwise_singleton _ _
 |x::y::r,h=>by
  have h':risingS x _=true:=h;unfold risingS at h';rw[zx,Bool.not_eq_true',ltCps_eq,decide_eq_false_iff_not] at h';have f:=Hf (y::r) h'.2;rw[zg];refine List.pairwise_cons.mpr ⟨λz d=>?_,f⟩
  rcases zl.mp d with rfl | d
  ·exact h'.1
  ·have:=(List.pairwise_cons.mp f).1 z d
   intro q
   rcases xU h'.1 with c | c
   ·exact this (List.lt_trans q c)
   ·rw[c] at q;exact this q
def Zf   (d:ss.Perm ((l.map S).foldl eX []))(hs:sortedS ss=true):ss=(jM l).map S:=by
 have e:=um l [];rw[zX] at e;rw[e] at d
 have f:(ss.map λx:Str=>x.cps.toList)=jM l:=by
  have c:(ss.map λx:Str=>x.cps.toList).Perm (l.foldl stepT []):=by
   refine(d.map _).trans ?_;rw[zR];rw[show((λx:Str=>x.cps.toList) ∘ S)=id from funext λa=>lV a,List.map_id]
  have j:=c.nodup_iff.mpr (xX l [] .nil)
  refine Hd _ _ ?_ (xW l) λx=>?_
  ·refine(List.Pairwise.and (Hf ss hs) j).imp λ{a b} h=>?_
   rcases xU h.1 with q | q
   ·exact q
   ·exact absurd q h.2
  ·rw[uh,c.mem_iff,uo];simp
 have m:∀x:Str,S x.cps.toList=x:=λx=>by cases x;simp[S]
 rw[<-f,zR]
 conv=>lhs;rw[<-List.map_id ss]
 exact jd λx _=>(m x).symm
section
variable {X:Cx}
def Inv.drew{X:Cx}{pins:List (Addr×Obj)}{σ:St}{H:Hp}{s:Shared}{d:Drawn}(I:Inv X pins σ H s):Inv X pins σ H {s with drawn:=d}:=⟨I.ok,I.os,I.bare,I.base,I.loc,I.cell,I.free,I.freeC,I.pin,I.hok,I.len⟩
theorem Hg:∀{ss:List Str}{c:List Value},aF (ss.map V.str) c->StrsAre c ss
 | [],_,h=>by cases h;exact .nil
 |x::ss,_,h=>by
  cases h with
  |cons a b =>
   obtain⟨t,rfl⟩:=a;exact .cons x t (Hg b)
theorem Hh:∀{ss:List Str}{b:List Value},StrsAre b ss->aF (ss.map V.str) b
 | _,_,.nil=>.nil
 | _,_,.cons x t h=>.cons ⟨t,rfl⟩ (Hh h)
def Zg(P:Program)(w:World)(K:Frag):List V->Hp->VK->Prop:=λb H Q=>∃(a:Addr) (ss:List Str),b=[.ref a]/\SqL K H a (ss.map V.str)/\ss.length<4000/\∀l,H l=none->Q (.ref l) (upd H l (.ext λh=>cR P w h l (ss.foldl eX [])))
def Zh(C:X.calm=true):fK X (.type "set") (Zg X.prog X.w X.K):=by
 intro pins s σ H G J Q I r h;obtain⟨a,ss,rfl,y,O,q⟩:=h;obtain⟨u,rfl,d⟩:=vals1 r;cases d;obtain⟨F,b,m,L⟩:=I.list y
 have hlen :=by have:=b.length;rw[zd] at this;exact this.symm
 refine YS (I.ok.hd C) m.isList (Hg b) (by rw[zF];unfold scanBound;omega) λE tk c k=>?_
 refine⟨.ref _,_,I.laid k (zc _) (show cg _ _ _ E _ (.ext _) from⟨c,?_,λh1 h2 j f=>cR.at j f⟩),rfl,q _ (I.hok.fresh (zc _))⟩;obtain⟨o,_,_,_,x⟩:=c;exact⟨o,x.1⟩
def Zi(P:Program)(w:World):List V->Hp->VK->Prop:=λc H Q=>∃(a:Addr) (ss:List Str),c=[.ref a]/\H a=some (.ext λh=>cR P w h a ss)/\ss≠[]/\ss.length<64/\∀l b,b.Perm ss->sortedS b=true->H l=none->Q (.ref l) (upd H l (.lst (b.map V.str)))
def Zj(G:X.calm=true):fK X (.builtin "sorted") (Zi X.prog X.w):=by
 intro pins s σ H T U Q I r h;obtain⟨a,ss,rfl,J,j,x,q⟩:=h;obtain⟨u,rfl,F⟩:=vals1 r;cases F;have L :=(I.hok a _ J).1
 refine Zd (I.ok.hd G) L j x λE D c out b k R P C m d y hs=>?_
 obtain⟨O⟩:=E;subst R;subst P
 have f:(b.map V.str).length<=sizeLine:=by rw[zd,y.length_eq,sizeLine_eq];omega
 exact⟨.ref D,_,(I.laid k C (show cg _ _ _ O _ (.lst _) from⟨f,out,c,Hh d,m⟩)).drew,rfl,q _ _ y hs (I.hok.fresh C)⟩
def strsT:List D->Option (List (List Nat))
 | []=>some []
 | .str l::ds=>(strsT ds).map (l :: ·)
 | _=>none
def uq(d:D):Option D:=match d with
 | .lst ds=>match strsT ds with
  |some l=>if l.length<4000/\l≠[]/\(l.foldl stepT []).length<64 then some (.lst ((jM l).map .str)) else none
  |none=>none
 | _=>none
def ur:List D->Option D
 | [d]=>uq d
 | _=>none
theorem Rps.strsT{K:Frag}{F:Hp}{b:List Addr}:∀{ds:List D}{xs:List V}{l:List (List Nat)},Rps K F b xs ds->L2.strsT ds=some l->xs=(l.map S).map V.str
 | [],xs,l,h,e=>by cases e;exact h
 |d::ds,xs,l,h,e=>by
  obtain⟨x,c,rfl,h3,h4⟩:=h.un
  cases d with
  |str t =>
   unfold L2.strsT at e
   cases q:L2.strsT ds with
   |none=>rw[q] at e;cases e
   |some  =>
    rw[q] at e;cases e;rw[Rps.strsT h4 q];rw[h3];rfl
  | _=>cases e
theorem Rps.ofStrs{K:Frag}{F:Hp}{b:List Addr}:∀l:List (List Nat),Rps K F b ((l.map S).map V.str) (l.map D.str)
 | []=>Rps.nil
 |x::l=>Rps.cons (show Rp K F b (V.str (S x)) (.str x) from rfl) (Rps.ofStrs l)
variable {md:List Md}{P:Pt}
def Zk  {p1 q1 I u:Pos}   (J:X.calm=true)(hm1:X.mg "sorted" = none)(Z:X.mg "set" = none)(ha:AE X md P ms [e] ma)(hg1:Gl X "sorted":=by rfl)(hg2:Gl X "set":=by rfl)
  (he:starEach [e] X.env=(false,eval e X.env)::starEach [] X.env:=by exact bZ rfl) (W:(backTo u (starEach [] X.env)).any (·.1)=false:=by exact cP rfl)
  (E:starEach [Expr.Call (.Name "set" I) [e] [] u] X.env=(false,eval (Expr.Call (.Name "set" I) [e] [] u) X.env)::starEach [] X.env:=by exact bZ rfl) (G:(backTo q1 (starEach [] X.env)).any (·.1)=false:=by exact cP rfl):
  OE X md P (.Call (.Name "sorted" p1) [.Call (.Name "set" I) [e] [] u] [] q1) (aK ur ma):=by
 have hin:PE X (.Call (.Name "set" I) [e] [] u) _:=wI (Zh J) hg2 Z (by decide +kernel) ha (by decide) (by decide) he W
 refine(wH (Zj J) hg1 hm1 (by decide +kernel) (fO hin gh E) (by decide) (by decide) E G).imp λσ H Q q=>?_
 obtain⟨ρ,O,F,as,d,O',r,s,e,k⟩:=q;obtain⟨ds,O1,e1,e⟩:=Res.bind_ok e;split at e
 ·rename_i y j;cases e;refine⟨ρ,_,F,as,_,_,r,s,e1,λvs H1 F1 as1 g1 L hv=>?_⟩;have C:=hv.lks L
  generalize hds:ds.map (aW O')=es at j C
  unfold ur at j;split at j
  ·rename_i d0;obtain⟨v,rfl,U⟩:=C.one;unfold uq at j;split at j
   ·rename_i ds0;split at j
    ·rename_i l hl;split at j
     ·rename_i f;cases j;obtain⟨p,xs,rfl,h1,h2⟩:=U.list L.fh;have T:=Rps.strsT h2 hl;subst T;refine⟨p,l.map S,rfl,h1.sq,by rw[zd];exact f.1,λa R=>?_⟩
      have Y:(l.map S).foldl eX []≠[]:=λz=>by
       have m:=um l [];rw[zX,z] at m
       cases hq:l.foldl stepT [] with
       |nil =>
        cases l with
        |nil=>exact f.2.1 rfl
        |cons x l' =>
         have:=(uo x (x::l') []).mpr (.inr ze)
         rw[hq] at this;cases this
       |cons x l'=>rw[hq] at m;cases m
      refine⟨a,_,rfl,bz,Y,?_,λb ss' hp hs hB=>?_⟩
      ·have m:=um l [];rw[zX] at m;rw[m,zd];exact f.2.2
      ·rw[Zf hp hs];refine nF (L.lay R) (λv' H' F' g' r' hw=>k v' H' F' as1 (g1.trans ((Gr.lay R).trans g')) r' (iD _ _ _ _ _ _ _ (λc J=>?_) hw)) hB (Rps.ofStrs _);refine g1.dm c ?_
       rcases Decidable.em (c=a) with z | z
       ·rw[z];exact R
       ·rwa [aH z] at J
     ·cases j
    ·cases j
   ·cases j
  ·cases j
 ·cases e
end
structure Zm(mg:Str->Option Value):Prop extends GP mg where
 set_:mg "set" = none
end L2
namespace L2
open PySem PySem.Spec PyProof.Rows
def qg(mo m:M D):MS:=λρ O=>match mo ρ O with
 | .ok (.ob n) O1=>match O1[n]? with
  |some (.ml _)=>match m ρ O1 with
   | .ok d O2=>match O2[n]?,aW O2 d with
    |some (.ml ds),.lst es=>if ds.length+es.length<=1000000 then .nx ρ (O2.set n (.ml (ds++es))) else .no
    | _,_=>.no
   | _=>.no
  | _=>.no
 | _=>.no
def Zn{R:RR}  {apos c G:Pos}  (ho:VE X md P o mo)(h:SE X md P e m)
  (E:attributeBase o "extend" X.env (eval o X.env)=eval o X.env:=by rfl)
  (I:((backTo c (starEach [e] X.env)).all (λx=>!x.1)&&(backToKw c (keywordEach [] X.env)).all (λx=>x.1.isSome)&&decide ([e].length+([]:List Keyword).length+(if([]:List Keyword).isEmpty then 0 else 1)<30))=true:=by rfl)
  (C:(apos.endLine == c.line)=true:=by rfl) (hs:starEach [e] X.env=(false,eval e X.env)::starEach [] X.env:=by exact bZ rfl) (f:(backTo c (starEach [] X.env)).any (·.1)=false:=by exact cP rfl)
  (W:swapsWith (.Call (.Attribute o "extend" apos) [e] [] c) none G.line X.env=pure false:=by rfl):
  VS X md P R (.Expr (.Call (.Attribute o "extend" apos) [e] [] c) G) (qg mo m):=
 (mY (lR PySem.F.plainAttrs_list PySem.F.slot_list_extend PySem.F.type_list_extend Gy ho (fO h gh hs) E I C hs f) W).imp λD σ H q=>by
  obtain⟨ρ,O,F,as,r,s,k⟩:=q;unfold qg at k;split at k
  ·rename_i n O1 e1;split at k
   ·rename_i ds0 e2;split at k
    ·rename_i d O2 e3;split at k
     ·rename_i ds es e4 e5;split at k
      ·rename_i hz;refine⟨ρ,O,F,as,_,_,r,s,e1,λv H1 F1 Y Q r1 hv=>?_⟩;obtain⟨a,rfl,ha⟩:=Rp.unO hv;obtain⟨U,x1,x2⟩:=r1.ml ha e2;refine⟨.inl ⟨rfl,U,.inl (.inl x1)⟩,ρ,O1,F1,Y,d,O2,r1,s.step Q,e3,λy H2 T u L J hy=>?_⟩;have j:=L.at_ n a ha;obtain⟨xs,y1,y2⟩:=J.ml j e4;have ly:=Sv.lk hy J;rw[e5] at ly;obtain⟨b,Z,rfl,w1,w2⟩:=ly.list J.fh;have g3:Gr H2 T u (upd H2 a (.lst (xs++Z))) T u:=p6 (zL j) y1;exact⟨a,b,xs,Z,rfl,rfl,y1,w1,by rw[y2.length,w2.length];exact eQ hz,k σ _ T u ((Q.trans L).trans g3).toS (J.mutO j (Rps.append w2 y2)) (s.step ((Q.trans L).trans g3))⟩
      ·exact False.elim k
     ·exact False.elim k
    ·exact False.elim k
   ·exact False.elim k
  ·exact False.elim k
noncomputable def iQ(n L:Nat)(g:MG)(t:M Bool)(m:M D):Nat->aM->au->List D->Res (List D)
 | 0,ρ,O,acc=>match O[n]? with
  |some (.ml es)=>if es.length=L then .ok acc O else .no
  | _=>.no
 |k+1,ρ,O,acc=>match O[n]? with
  |some (.ml es)=>match es[L - (k+1)]? with
   |some d=>match g d ρ with
    |none=>.no
    |some b=>match t b O with
     | .ok true O1=>match m b O1 with
      | .ok y O2=>iQ n L g t m k b O2 (acc++[y])
      | _=>.no
     | .ok false O1=>iQ n L g t m k b O1 acc
     | _=>.no
   |none=>.no
  | _=>.no
def qi(m:M D)(own:Nat)(cap:List Nat)(g:MG)(t:M Bool)(e:M D):M D:=λρ O=>(m ρ O).bind λd b=>match d with
 | .ob n=>match b[n]? with
  |some (.ml ds)=>if ds.length<=1000000 then(iQ n ds.length g t e ds.length (eU own cap ρ) b []).bind λc f=>.ok (.lst c) f else .no
  | _=>.no
 | _=>.no
def Zo{K:Frag}        (hcap:∀j∈cap,j<md.length)    (q:tM K mg md P (rO K) (qi m own.length cap g t e) σ H Q):
  sW (v8 K (tM K mg md P (rV K) m)) own cap (xMG K mg (cMd own.length cap md) g) (xMT K mg (cMd own.length cap md) t) (xM K mg (cMd own.length cap md) (rV K) e) σ H Q:=by
 obtain⟨ρ,O,F,as,d,OZ,r,s,C,k⟩:=q;obtain⟨d1,O1,e1,C⟩:=Res.bind_ok C;split at C
 ·rename_i n;split at C
  ·rename_i f e2;split at C
   ·rename_i hz;obtain⟨yf,O2,e3,C⟩:=Res.bind_ok C;cases C;refine⟨ρ,_,F,as,_,_,r,s,e1,λv H1 F1 T g1 r1 hv=>?_⟩;obtain⟨a,rfl,ha⟩:=Rp.unO hv;obtain⟨xs0,x1,x2⟩:=r1.ml ha e2;have sb:=FP (own:=own) (s.step g1) hcap
    refine⟨a,rfl,⟨xs0,.inl (.inl x1)⟩,λi k X σ' H'=>k=f.length - i/\i<=f.length/\∃I W E b c,Gr H1 F1 T H' E b/\RlO K mg W H' E b/\SlO K (cMd own.length cap md) (Pt.all H1) I σ' H' E b/\Rps K E b X c/\c.length<=i /\
     iQ n f.length g t e (f.length - i) I W c=.ok yf OZ,⟨f.length,by simp,Nat.zero_le _,eU own.length cap ρ,O1,F1,T,[],Gr.refl,r1,sb,Rps.nil,zc _,by rw[Nat.sub_zero];exact e3⟩,?_⟩
    rintro i kk X σ' H' ⟨rfl,hi,I,W,E,b,c,g',r',s',hy,hl,ec⟩;have ha':=g'.at_ n a ha
    by_cases hlt:i<f.length
    ·rw[show f.length - i=(f.length - (i+1))+1 by omega] at ec;unfold iQ at ec;split at ec
     ·rename_i es ee;obtain⟨Y,y1,y2⟩:=r'.ml ha' ee;rw[show f.length - (f.length - (i+1)+1)=i by omega] at ec;split at ec
      ·rename_i d' ed;obtain⟨x,hx,rx⟩:=y2.get' ed;have hsq:SqL K H' a Y:=.inl (.inl y1)
       refine .inr ⟨⟨Y,x,hsq,hx⟩,?_,λX σ2 H2=>∃ρ2 O3 F2 J G,Gr H1 F1 T H2 F2 J/\RlO K mg O3 H2 F2 J/\SlO K (cMd own.length cap md) (Pt.all H1) ρ2 σ2 H2 F2 J/\Rps K F2 J X G/\G.length<=i+1 /\
        iQ n f.length g t e (f.length - (i+1)) ρ2 O3 G=.ok yf OZ,λys2 σ2 H2 h2=>⟨f.length - (i+1),by omega,rfl,hlt,h2⟩,λx' H3 y=>?_⟩
       ·rw[hy.length]
        have:=eQ hz
        omega
       obtain⟨rfl,hyy⟩:=y;have hxx:=hyy Y hsq;rw[hx] at hxx;cases hxx;split at ec
       ·cases ec
       ·rename_i u eg;refine⟨_,I,W,E,b,d',u,r',s',rx,eg,λσ4 Z=>?_⟩;split at ec
        ·rename_i O4 et;refine⟨_,u,W,E,b,true,O4,r',Z,et,λH5 F5 R L r5=>?_⟩;dsimp only;rw[if_pos rfl];split at ec
         ·rename_i yd O6 em;refine⟨_,u,O4,F5,R,yd,O6,r5,Z.step L,em,λvy H7 F7 as7 g7 r7 hvy=>?_⟩;exact⟨u,O6,F7,as7,c++[yd],(g'.trans L).trans g7,r7,(Z.step L).step g7,((hy.gr L).gr g7).snoc hvy,by rw[zf];show c.length+1<=i+1;omega,ec⟩
         ·cases ec
        ·rename_i O4 et;refine⟨_,u,W,E,b,false,O4,r',Z,et,λH5 F5 R L r5=>?_⟩;dsimp only;rw[if_neg zv];exact⟨u,O4,F5,R,c,g'.trans L,r5,Z.step L,hy.gr L,by omega,ec⟩
        ·cases ec
      ·cases ec
     ·cases ec
    ·have hi':i=f.length:=by omega
     subst hi';rw[Nat.sub_self] at ec;unfold iQ at ec;split at ec
     ·rename_i es ee;split at ec
      ·rename_i hle;cases ec;obtain⟨Y,y1,y2⟩:=r'.ml ha' ee;refine .inl ⟨⟨Y,.inl (.inl y1),by rw[y2.length,hle];exact zc _⟩,?_,λp U=>?_⟩
       ·rw[hy.length];exact zG hl (eQ hz)
       ·have hF:E p=none:=by
         cases q:E p with
         |none=>rfl
         |some o=>rw[r'.fh p o q] at U;cases U
        exact k _ _ E b ((g1.trans g').trans (Gr.lay U)) (r'.lay U) (.inr ⟨p,X,yf,rfl,rfl,bz,hF,λz=>r'.all z U,(g1.trans g').dm p U,hy⟩)
      ·cases ec
     ·cases ec
   ·cases C
  ·cases C
 ·cases C
def Zq{f:Pos}(b:Scope)(c own:List Str)(cap:List Nat)(I:X.calm=true)(E:VE X md P J mi)
  (F:∀C s H ex P,VG (bJ X scope C (bH c own cap) s H ex) (cMd own.length cap md) P Q g) (y:∀C s H ex P,VIf (bJ X scope C (bH c own cap) s H ex) (cMd own.length cap md) P L t)
  (G:∀C s H ex P,VE (bJ X scope C (bH c own cap) s H ex) (cMd own.length cap md) P O e)
  (d:∀j∈cap,j<md.length:=by decide) (m:X.env.scope=b:=by rfl) (u:X.N=c:=by rfl) (ok:kh b c scope own cap=true:=by decide +kernel) (hs:∀x,foldedSetIterable J X.env x=pure x:=by intro _;rfl):
  OE X md P (.ListComp O [⟨Q,J,L,0⟩] scope f) (qi mi own.length cap g t e):=
 (Ew b c own cap I (rY E) (λC s H ex=>xmg (F C s H ex)) (λC s H ex=>xmt (y C s H ex)) (λC s H ex=>xm (G C s H ex)) m u ok hs).imp λ_ _ _ q=>Zo d q
end L2
namespace L2
open PySem PySem.Spec PyProof.Rows PySem.W
inductive CXE (Pr:Program) (w:World) (outer:List Env) (H:Hp) (s:Shared) (E:XK) (e:Value) (s':Shared):Prop
 | mk:∀(ea C:Addr) (H':Hp) (B:Heap) (a0:Value),e=.ref ea->s'.os=s.os->AllBare s'.gens->Un (frs outer) [] H H' s.heap s'.heap->HOk Pr w H' s'.heap->Heap.FlyingW B outer ea (.ref C) a0 s'.heap->(∀b u,H' b=some u->∃o,B.get? b=some o)->(∀b o,s.heap.get? b=some o->b∉frs outer->∃o',B.get? b=some o')->E (.ref C) none H'->CXE Pr w outer H s E e s'
noncomputable def msN(m:MS):MS:=λρ O=>match m ρ O with
 | .ex _ _=>.no
 |f=>f
def bmV:List Value:=[.type "ValueError",.type "Exception",.type "BaseException",.type "object"]
inductive Zr (P:Program) (w:World) (K:Frag) (mg:Str->Option Value) (base:Heap) (x:Str) (ps:List Str) (k:Nat) (sp:Sp):Prop
 | mk:∀f fd,mg x=some (.ref f)->keepIn K (.ref f)=true->Binds K fd ps []->cG P w K mg base (CXE P w) k f fd ps sp->(∃oc od osl,K.lookup f=some ⟨oc,od,.func fd,osl⟩)->Zr P w K mg base x ps k sp
def Zt(K:Frag)(mg:Str->Option Value)(R:RR)(H F:Hp)(j:List Addr)(Q:VK)(E:XK):Res D->Prop
 | .ok d O'=>∀v c f b,Gr H F j c f b->RlO K mg O' c f b->R (λa=>H a=none) c f b v d->Q v c
 | .ex x O'=>∀C c f b,mg x.cls=some (.ref C)->Gr H F j c f b->RlO K mg O' c f b->E (.ref C) none c
 | .no=>False
inductive Zu (K:Frag) (mg:Str->Option Value) (pm:List Md) (R:RR) (c:List D->au->Res D) (vs:List V) (H:Hp) (Q:VK) (E:XK):Prop
 | mk:∀ds O F as,RlO K mg O H F as->bO K H F as pm vs ds->Zt K mg R H F as Q E (c ds O)->Zu K mg pm R c vs H Q E
end L2
namespace L2
open PySem PySem.Spec PyProof.Rows PySem.W PySem.Calls PySem.Builtin PySem.Builtin.ObjectAttr PySem.Builtin.Getset_descriptor
structure QEl(K:Frag)(C:Addr):Prop where
 ga:findIn K (.ref C) "__getattribute__" = some (some (.builtin "BaseException.__getattribute__"))
 na:findIn K (.ref C) "__getattr__" = some none
 ca:findIn K (.ref C) "__class__" = some (some (.builtin "object.__class__"))
 sp:specialIn K (.builtin "object.__class__") "__get__" = some (some (.builtin "getset_descriptor.__get__"))
 tk:takesIn K (.builtin "object.__class__")=some true
 ob:mroIn K C (.type "object")=some true
 be:mroIn K C (.type "BaseException")=some true
 cl:(clsIn K C).isSome=true
def HX(a C:Addr)(h:Heap):Prop:=∃o,h.get? a=some o/\o.cls=.ref C
end L2
namespace L2
open PySem PySem.Spec PyProof.Rows PySem.W
end L2
namespace L2
open PySem PySem.Spec PyProof.Rows
end L2
namespace L2
open PySem PySem.Spec PyProof.Rows PySem.W
inductive CXF (Pr:Program) (w:World) (outer:List Env) (H:Hp) (s:Shared) (E:XK) (e:Value) (s':Shared):Prop
 | mk:∀(ea C:Addr) (H':Hp) (B:Heap) (a0:Value) (dxo:Option Addr),e=.ref ea->s'.os=s.os->AllBare s'.gens->Un (frs outer) [] H H' s.heap s'.heap->HOk Pr w H' s'.heap->Heap.FlyingW B outer ea (.ref C) a0 s'.heap->(∀b u,H' b=some u->∃o,B.get? b=some o)->(∀b o,s.heap.get? b=some o->b∉frs outer->∃o',B.get? b=some o')->(∃oe,s'.heap.get? ea=some oe/\oe.dict=dxo)->E (.ref C) dxo H'->CXF Pr w outer H s E e s'
inductive Zv (P:Program) (w:World) (K:Frag) (mg:Str->Option Value) (base:Heap) (x:Str) (ps:List Str) (k:Nat) (sp:Sp):Prop
 | mk:∀f fd,mg x=some (.ref f)->keepIn K (.ref f)=true->Binds K fd ps []->cG P w K mg base (CXF P w) k f fd ps sp->(∃oc od osl,K.lookup f=some ⟨oc,od,.func fd,osl⟩)->Zv P w K mg base x ps k sp
inductive Zw (P:Program) (w:World) (K:Frag) (mg:Str->Option Value) (base:Heap) (c m:Str) (ps:List Str) (k:Nat) (sp:Sp):Prop
 | mk:∀C f fd,mg c=some (.ref C)->Cls K C->m6 K C m f->Binds K fd ps []->cG P w K mg base (CXF P w) k f fd ps sp->Zw P w K mg base c m ps k sp
def Zx(K:Frag)(mg:Str->Option Value)(R:RR)(H F:Hp)(m:List Addr)(Q:VK)(E:XK):Res D->Prop
 | .ok d O'=>∀v c f b,Gr H F m c f b->RlO K mg O' c f b->R (λa=>H a=none) c f b v d->Q v c
 | .ex x O'=>∀C j c f b,mg x.cls=some (.ref C)->Gr H F m c f b->RlO K mg O' c f b->XF K f b j x.fs->E (.ref C) j c
 | .no=>False
inductive Zy (K:Frag) (mg:Str->Option Value) (pm:List Md) (R:RR) (c:List D->au->Res D) (vs:List V) (H:Hp) (Q:VK) (E:XK):Prop
 | mk:∀ds O F as,RlO K mg O H F as->bO K H F as pm vs ds->Zx K mg R H F as Q E (c ds O)->Zy K mg pm R c vs H Q E
end L2
namespace L2
open PySem PySem.Spec PyProof.Rows PySem.W PySem.Builtin PySem.Builtin.ObjectAttr
def Zz(K:Frag)(C:Addr)(b:List Value)(newId:String)(c:Addr):Bool:=match K.lookup C with
 |some ⟨.type "type",_,.cls cd,sl⟩=>(match cd.mro,sl.toList with
  | .ref C'::bm,[_,_,_,_,some (.builtin n),_]=>C' == C&&n == newId && !cd.hasDel&&tailIn K b bm&&nsOkIn K cd.ns&&nsIn K cd.ns "__init__" == some (some (.ref c))&&cd.hasDict
  | _,_=>false)
 | _=>false
def ZC(C t:Addr)(b:Option Addr):Obj:={cls:=.ref C,dict:=b,data:=.fields #[.ref t,.none,.none,.none,.bool false,.none]}
def xoK(C t c:Addr)(b:Option Addr):HO:=.ext λh=>h.get? c=some (ZC C t b)
def spI(C:Addr)(name:Str):Sp:=λvs H Q _=>∃b t v,vs=[.ref b,v]/\H b=some (xoK C t b none)/\∀c d,H c=none->c≠b->Q .non (upd (upd H c (.frz d (.xd [(name,v)]))) b (xoK C t b (some c)))
structure ZD(K:Frag)(C fI:Addr)(name:Str):Prop where
 cl:Zz K C bmV "ValueError.__new__" fI=true
 sa:findIn K (.ref C) "__setattr__" = some (some (.builtin "object.__setattr__"))
 na:findIn K (.ref C) name=some none
 ob:mroIn K C (.type "object")=some true
inductive ZF (P:Program) (w:World) (K:Frag) (mg:Str->Option Value) (base:Heap) (c name:Str) (k:Nat):Prop
 | mk:∀(C fI:Addr) (fd:FuncData) (ps:List Str),mg c=some (.ref C)->ZD K C fI name->isFn K (.ref fI)=true->Binds K fd ps []->cG P w K mg base CX0 k fI fd ps (spI C name)->ZF P w K mg base c name k
end L2
namespace L2
open PySem PySem.Spec PyProof.Rows PySem.W
end L2
namespace L2
open PySem PySem.Spec PyProof.Rows PySem.W PySem.Calls PySem.Builtin PySem.Builtin.ObjectAttr
end L2
namespace L2
open PySem PySem.Spec PyProof.Rows PySem.W
def ZG(A:Around):Around:={A with handled:=none}
structure ZJ(P:Program)(w:World)(K:Frag)(mg:Str->Option Value)(base:Heap)(k:Nat)(f:Addr)(fd:FuncData)(ps:List Str)(sp:Sp):Prop where
 len:∀vs H Q E,sp vs H Q E->vs.length=ps.length
 run:∀(A:Around) (outer:List Env) (s:Shared) (H:Hp) (args:Args) (us:List Value) (vs:List V) (Q:VK) (E:XK),aV k (ZG A)->jy P w K mg base A outer s H->BindsTo s fd args (ps.zip us)->aF vs us->sp vs H Q E ->
  codeAny (model P w) A (.call (.ref f) args) (CR CX0 outer P w H s Q E) s
inductive ZK (P:Program) (w:World) (K:Frag) (mg:Str->Option Value) (base:Heap) (x:Str) (ps:List Str) (k:Nat) (sp:Sp):Prop
 | mk:∀f fd,mg x=some (.ref f)->keepIn K (.ref f)=true->Binds K fd ps []->ZJ P w K mg base k f fd ps sp->(∃oc od osl,K.lookup f=some ⟨oc,od,.func fd,osl⟩)->ZK P w K mg base x ps k sp
inductive ZL (P:Program) (w:World) (K:Frag) (mg:Str->Option Value) (base:Heap) (c:Str) (ps:List Str) (k:Nat) (sp:Sp):Prop
 | mk:∀C f fd,mg c=some (.ref C)->Mk K C f->Binds K fd ps []->cG P w K mg base (CXF P w) k f fd ps sp->ZL P w K mg base c ps k sp
end L2
namespace L2
open PySem PySem.Spec PyProof.Rows PySem.W PySem.Calls
structure QEo(mg:Str->Option Value):Prop extends Blt mg where
 any_:mg "any" = none
end L2
namespace L2
open PySem PySem.Spec PyProof.Rows PySem.W
structure QD4(P:Program)(w:World)(K:PySem.W.Frag)(mg:Str->Option Value)(base:Heap)(k:Nat)(f:Addr)(fd:FuncData)(ps:List Str)(sp:Sp):Prop where
 len:∀vs H Q E,sp vs H Q E->vs.length=ps.length
 run:∀(A:Around) (outer:List Env) (s:Shared) (H:Hp) (args:Args) (us:List Value) (vs:List V) (Q:VK) (E:XK),aV k A->jy P w K mg base A outer s H->BindsTo s fd args (ps.zip us)->aF vs us->sp vs H Q E ->
  codeAny (model P w) A (.call (.ref f) args) (λr s'=>1<=s'.toks/\CR CX0 outer P w H s Q E r s') s
structure ZT(h:Heap)(z TI TO i1 i2 l1 l2 k1 k2:Nat)(xs ys:Array Value):Prop where
 z:IsZip h z TI TO .none
 ti:IsPair h TI (.ref i1) (.ref i2)
 to:∃a b,IsPair h TO a b
 h1:h.IsTupleIter i1 l1 k1
 h2:h.IsTupleIter i2 l2 k2
 t1:h.IsTuple l1 xs
 t2:h.IsTuple l2 ys
abbrev KN(K:Frag)(H:Hp):List (NK×V)->List (NK×Addr×Value)->Prop:=Paired λp q=>p.1=q.1/\NAt K H p.1 q.2.1/\RelV p.2 q.2.2
def KN.val{K:Frag}{H:Hp}{c:List (NK×V)}{xs:List (NK×Addr×Value)}(r:KN K H c xs)(k:NK):dH (dJ c k) ((atKey xs k).map (·.2)):=by
 induction r with
 |nil=>exact True.intro
 | @cons p q ps qs h t ih =>
  obtain⟨h1,_,h2⟩:=h
  by_cases e:p.1=k
  ·have e':q.1=k:=h1.symm.trans e
   have b:atKey (q::qs) k=some q.2:=by simp[atKey,List.find?_cons,e']
   rw[m7 e,b];exact h2
  ·have e':¬q.1=k:=λz=>e (h1.trans z)
   have b:atKey (q::qs) k=atKey qs k:=by simp[atKey,List.find?_cons,e']
   rw[m8 e,b];exact ih
def KN.repl{K:Frag}{H:Hp}{b:List (NK×V)}{xs:List (NK×Addr×Value)}(r:KN K H b xs)(k:NK){y:V}{u:Value}(d:RelV y u):
  KN K H (b.map λc=>if c.1=k then(c.1,y) else c) (xs.map (putAt k u)):=by
 induction r with
 |nil=>exact .nil
 | @cons p q ps qs h t ih =>
  rw[zg,zg];refine .cons ?_ ih;obtain⟨h1,h2,h3⟩:=h;unfold putAt
  by_cases e:p.1=k
  ·rw[if_pos e,if_pos (h1.symm.trans e)];exact⟨h1,h2,d⟩
  ·rw[if_neg e,if_neg (λz=>e (h1.trans z))];exact⟨h1,h2,h3⟩
def KN.put{K:Frag}    (r:KN K H f xs)(k:NK)    (hb:NAt K H k b)(c:RelV y u):
  KN K H (putK f k y) (storedH xs k b u):=by
 have e:(f.any λd=>decide (d.1=k))=(atKey xs k).isSome:=by
  rw[wN,(r.val k).isSome_eq,Option.isSome_map]
 unfold putK storedH;rw[e]
 by_cases q:(atKey xs k).isSome=true
 ·rw[if_pos q,if_pos q];exact r.repl k c
 ·rw[if_neg q,if_neg q];exact Paired.snoc r ⟨rfl,hb,c⟩
def KN.keeps{K:Frag}{H d:Hp}{c:List (NK×V)}{xs:List (NK×Addr×Value)}(r:KN K H c xs)(f:∀b ys,H b=some (.tup ys)->d b=some (.tup ys)):KN K d c xs :=
 Paired.mapP r λ_ _ z=>⟨z.1,z.2.1.mono f,z.2.2⟩
def xY{K:Frag}  (ok:HOk P w H h)(kin:K.In h)(e:NAt K H k a):(mX P w).is h k a:=by
 obtain⟨c,J,d⟩:=e;obtain⟨_,L,r,o,h1,h2,n,h3⟩:=(ok a _ J);have r' :=r
 cases r' with
 | @cons _ u _ us r1 r2 =>
  cases r2 with
  | @cons _ u2 _ us2 r3 r4 =>
   cases r4;obtain rfl :=r3;refine⟨o,_,n,u,c,h1,h2,h3,by simp,m9 r1,?_⟩
   rcases d with d | ⟨y,f,E,l1,I,l3,l4,G⟩
   ·obtain⟨_,b,q,C,x,m,F,j⟩:=(ok c _ d);exact⟨C,b.toArray,F,x,m,j,by simpa using sJ q⟩
   ·exact⟨y,f,E,kin _ _ l1,I,l3,sJ G⟩
def xZ{K:Frag}  (ok:HOk P w H h)(kin:K.In h)(e:Rd H a (.dN K f)):f.length<=sizeLine/\(a == sysModules)=false /\
  ∃xs,KN K H f xs/\h.DictOfH (mX P w) a xs:=by
 obtain⟨z,y,xs,r,o,c,d,h1,h2,h3,h4,b⟩:=(wO ok e);refine⟨z,y,xs,r,o,c,d,h1,h2,h3,h4,λx hx=>?_,b⟩
 have all:∀{l}{m},KN K H l m->∀x∈m,(mX P w).is h x.1 x.2.1:=by
  intro l m q
  induction q with
  |nil=>intro x hx;exact nomatch hx
  | @cons p q ps qs hq t ih =>
   intro x hx
   rcases zl.mp hx with e | hx
   ·subst e;exact xY ok kin (by rw[<-hq.1];exact hq.2.1)
   ·exact ih x hx
 exact all r x hx
def Hi   {A:Around}(b:A.units+6<cLine):(mX P w).room A.in1:=by
 show A.units+1+4<cLine;omega
def n6   (b:aV k A):A.units+6<cLine:=Nat.lt_of_le_of_lt (Nat.add_le_add_left (by decide) _) b.units
def yc(K:Frag)(H:Hp)(a:Addr)(y:V)(r:Option V):Prop:=∃c k b,Rd H a (.dN K c)/\y=.ref b/\NAt K H k b/\r=dJ c k
def ZM{σ:St}  (x:A.units+6<cLine)(I:Inv X P σ H s)(g:yc X.K H a y (some v))(m:RelV y u)(h:∀c j,Inv X P σ H j->RelV v c->Q c j):
  wpAny (model X.prog X.w) A (getItem (.ref a) u) Q E s:=by
 obtain⟨L,k,b,e,F,G,l⟩:=g;subst F;cases(m);obtain⟨z,hd,O,rel,J⟩:=xZ I.hok I.kIn e;obtain⟨c,q,d⟩:=dH.some_of (by rw[l];exact rel.val k);obtain⟨p,C,f⟩:=jq.mp q;refine wpAny_getItem_heap (Hi x) (xY I.hok I.kIn G) J C ?_;rw[f];exact h c _ (I.tok _) d
def ZP{σ:St}(I:Inv X f σ H s)(g:yc X.K H a y o):∃ob,s.heap.get? a=some ob/\ob.cls=.type "dict":=by
 obtain⟨c,k,b,e,l⟩:=g;obtain⟨_,_,d,_,ob,_,_,h1,h2,_⟩:=xZ I.hok I.kIn e;exact⟨ob,h1,h2.1⟩
def ZQ{σ:St}     (C:A.units+6<cLine)(I:Inv X W σ H s)(e:H a=some (.dN X.K U))(u:NAt X.K H k b)(l:U.length<sizeLine)(y:RelV v r)(h:∀f,Inv X W σ (upd H a (.dN X.K (putK U k v))) f->Q () f):
  wpAny (model X.prog X.w) A (setItem (.ref a) (.ref b) r) Q E s:=by
 obtain⟨z,hd,x,rel,O⟩:=xZ I.hok I.kIn (.inl e)
 have R:x.length<=sizeLine:=by rw[<-Paired.length rel];exact z
 have F:(putK U k v).length<=sizeLine:=by have:=sH U k v;omega
 refine wpAny_setItem_heap (Hi C) (xY I.hok I.kIn u) O λT d hs=>h _ ?_
 obtain⟨q,J,L,j,h2,h3,h4,_,G⟩:=d;refine wQ I (by rw[e];exact True.intro) hs ⟨q,j⟩ ⟨F,hd,_,(rel.put k u y).keeps λc P m=>?_,q,J,L,j,h2,h3,h4,G⟩;rw[aH (ne_of m e λz=>nomatch z)];exact m
def ZR(K:Frag)(c ty:TE):TE:=λσ H Q=>c σ H λx d=>ty σ d λy b=>∃a v,x=.ref a/\yc K b a y (some v)/\Q v b
def ZW(K:Frag)(j ty f:TE):TS:=λD σ H=>f σ H λv q=>j σ q λx m=>ty σ m λy d=>∃a c k b,x=.ref a/\y=.ref b/\d a=some (.dN K c)/\NAt K d k b/\c.length<sizeLine/\D.nx σ (upd d a (.dN K (putK c k v)))
def ZX(K:Frag):TE:=λ_ H Q=>∀p,H p=none->Q (.ref p) (upd H p (.dN K []))
def ZZ(c:X.A.units+6<cLine)(d:PE X o C)(f:PE X i ty)(hs:wR i):PE X (.Subscript o i E) (ZR X.K C ty):=by
 intro pins s σ H Q I h;refine En PySem.F.slot_dict_getitem.lookup hs (thn (d _ s σ H _ I h) λu s1 ⟨x,H1,I1,rx,q1⟩=>thn (f _ s1 σ H1 _ I1 q1) λiv s2 ⟨y,H2,I2,ry,a,v,ex,g,q2⟩=>?_);subst ex;obtain rfl :=rx;exact⟨ZP I2 g,ZM c I2 g ry λm q j b=>⟨v,H2,j,b,q2⟩⟩
def Z0(c:X.A.units+6<cLine)(d:PE X o G)(f:PE X i ty)(hv:PE X q F)(hs:swapsWith q (some (.Subscript o i C)) E.line X.env=pure false):
  PS X (.Assign [.Subscript o i C] q E) (ZW X.K G ty F):=by
 intro pins s σ H D I h;refine wpAny_Assign_Subscript (thn (hv _ s σ H _ I h) λr s1 ⟨v,H1,I1,rv,q1⟩=>thn (d _ s1 σ H1 _ I1 q1) λu s2 ⟨x,H2,I2,rx,q2⟩=>thn (f _ s2 σ H2 _ I2 q2) λiv s3 ⟨y,H3,I3,ry,a,kvs,k,b,ex,ey,e,eb,l,q3⟩=>?_) hs;subst ex ey;obtain rfl :=rx;obtain rfl :=ry
 exact ZQ c I3 e eb l rv λm j=>⟨σ,_,j,q3⟩
def Z1:PE X (.Dict [] [] b) (ZX X.K):=λpins s σ H Q I h =>
 wpAny_Dict_empty ⟨.ref _,_,I.laid (o:=.dN _ []) (λ_ _ q=>zo _ q) (zc _)
  (⟨Nat.zero_le _,beq_eq_false_iff_ne.mpr (Ne.symm (zq I.big)),[],.nil,_,#[],0,zy _ rfl,⟨rfl,rfl,rfl⟩,rfl,rfl,List.nodup_nil⟩),rfl,h _ (I.hok.fresh (zc _))⟩
section
variable {X:Cx}{pins:List (Addr×Obj)}{σ:List (Option V)}{H:Hp}{s:Shared}{a:Addr}{xs:List (NK×V)}{o:Obj}
def Inv.base0N(I:Inv X pins σ H s)(e:H a=some (.dN X.K xs)):∀o u,X.H₀ a≠some (.frz o u):=λo u z=>by
 have:=I.base.frzs a o u z
 rw[e] at this;cases this
def Inv.freezeN(I:Inv X pins σ H s)(e:H a=some (.dN X.K xs)):∃o,s.heap.get? a=some o/\Inv X pins σ (upd H a (.frz o (.dN X.K xs))) s:=by
 have hx:=I.hok a _ e
 obtain⟨o,b⟩:∃u,s.heap.get? a=some u:=by
  obtain⟨_,_,_,_,_,_,_,z,_⟩:=hx;exact⟨_,z⟩
 refine⟨o,b,I.reword (by rw[e];exact λz=>nomatch z) (by rw[e];exact λ_ z=>nomatch z) (by rw[e];exact λ_ z=>nomatch z) (by rw[e];exact λ_ z=>nomatch z) (I.base0N e) ⟨b,?_⟩⟩
 exact cg.stay hx (λ_ _ _ z=>z) (λc z=>by rw[aH (λq=>by rw[q,e] at z;cases z)];exact z) λc d z=>by rw[aH (λq=>by rw[q,e] at z;cases z)];exact z
def Inv.thawN(I:Inv X pins σ H s)(e:H a=some (.frz o (.dN X.K xs)))(b:∀o u,X.H₀ a≠some (.frz o u)):Inv X pins σ (upd H a (.dN X.K xs)) s:=by
 obtain⟨f,hx⟩:=(show cg X.prog X.w H s.heap a (.frz o (.dN X.K xs)) from I.hok a _ e);refine I.reword (by rw[e];exact λz=>nomatch z) (by rw[e];exact λ_ z=>nomatch z) (by rw[e];exact λ_ z=>nomatch z) (by rw[e];exact λ_ z=>nomatch z) b ?_
 exact cg.stay hx (λ_ _ _ z=>z) (λc z=>by rw[aH (λq=>by rw[q,e] at z;cases z)];exact z) λc d z=>by rw[aH (λq=>by rw[q,e] at z;cases z)];exact z
end
noncomputable def Hj(K:Frag)(a:Addr)(o:Obj):It :=
 ⟨λi H=>∃c:List (NK×V),H a=some (.frz o (.dN K c))/\i<c.length,
  λi H x d=>d=H/\∀c:List (NK×V),H a=some (.frz o (.dN K c))->∃b p,x=.ref b/\c[i]?=some p/\NAt K H p.1 b,
  λi H=>∃c:List (NK×V),H a=some (.frz o (.dN K c))/\c.length<=i⟩
def ye   {σ:St}      (I:Inv X F σ H s)(e:H a=some (.frz o (.dN X.K ys))):
  s.heap.get? a=some o/\(a == sysModules)=false/\o.ExactDict/\∃es ep,o.data=.dict es ep/\es.size=ys.length/\∀(i:Nat) (h:i<es.size),∃b p,es[i].key=.ref b/\ys[i]?=some p/\NAt X.K H p.1 b:=by
 obtain⟨h1,z,y,c,r,u,es,ep,h2,h3,h4,j,E⟩:=(I.hok a _ e);rw[h1] at h2;cases h2
 have C:es.size=c.length:=by rw[<-Array.length_toList,j,zd]
 have x :=r.length;refine⟨h1,y,h3,es,ep,h4,by omega,λi m=>?_⟩
 have hx:i<c.length:=by omega
 have f:i<ys.length:=by omega
 have d:es.toList[i]?=some (entryOfKey (mX X.prog X.w) c[i]):=by rw[j,zE,zw];rfl
 rw[Array.getElem?_toList,Array.getElem?_eq_getElem m] at d;have q:=Yv r (zw f) (zw hx);refine⟨c[i].2.1,ys[i],?_,zw f,q.2.1⟩
 injection d with d
 rw[d];rfl
def Z2   {K:Frag}  (a it:Addr)(o:Obj)(es:Array DictEntry)(ep:Nat)(hd:o.data=.dict es ep):Turn P w K tg (Hj K a o) [it] it (λi h=>h.IsKeyIter it a i es.size ep) where
 mem:=by simp
 obj:=λi h st b hb=>by
  have e:b=it:=by simpa using hb
  subst e;obtain⟨o,e,c,d⟩:=st;exact⟨o,e,λv z=>by rw[d] at z;cases z⟩
 keep:=λi h h' st k=>st.at λo e=>k it (by simp) o e
 item:=by
  intro X hP hw hK hc i pins s σ H E I hf st hg;subst hP hw hK;obtain⟨ys,hq,hlt⟩:=hg;obtain⟨q1,q2,q3,es',ep',q4,q5,q6⟩:=ye I hq;rw[hd] at q4;cases q4;obtain⟨f0,f1,f2,f3,f4,f5⟩:=hf it (by simp)
  have hi:i<es.size:=by omega
  refine Yt st q1 hd rfl hi λh' st' sb=>?_
  have I1:Inv X pins σ H {s with heap:=h'}:=I.turned (t':=s.toks) (λb o hb e=>(sb.2 b hb).trans e) f0 f1 f3 f4 f5;obtain⟨b,p,k1,k2,k3⟩:=q6 i hi;rw[k1];obtain⟨o2,e,c,d⟩:=id st';refine⟨_,rfl,mZ (s:={s with heap:=h'}) e c d (by decide) ⟨.ref b,H,I1,rfl,⟨rfl,λzs hz=>?_⟩,st',λb hb=>(hf b hb).1⟩⟩;rw[hq] at hz;cases hz;exact⟨b,p,rfl,k2,k3⟩
 done:=by
  intro X hP hw hK hc i pins s σ H E I hf st hg;subst hP hw hK;obtain⟨ys,hq,hge⟩:=hg;obtain⟨q1,q2,q3,es',ep',q4,q5,q6⟩:=ye I hq;rw[hd] at q4;cases q4;obtain⟨f0,f1,f2,f3,f4,f5⟩:=hf it (by simp)
  exact Yu (I.ok.hd hc) st q1 hd rfl (by omega) λh' eb=>⟨rfl,I.turned (t':=s.toks) (λb o hb e=>eb b o hb e) f0 f1 f3 f4 f5⟩
 self:=λ_ _ _ _ _ st h=>wpAny_pyIter_keyiter st h
def Z3(K:Frag)(tl:TE):TI:=λσ H R=>tl σ H λx c=>∃a b,x=.ref a/\c a=some (.dN K b)/\∀o,R (Hj K a o) (upd c a (.frz o (.dN K b)))
def Z4    (y:PE X l tl):PI X O l (Z3 X.K tl):=by
 intro pins s σ H R I h
 refine thn (y _ s σ H _ I h) λv s1 ⟨x,H1,I1,r1,d⟩=>?_
 obtain⟨a,G,e,u,q⟩:=d;subst e;cases r1;obtain⟨o,L,c⟩:=I1.freezeN u;obtain⟨d,m,j,E,F,f,J⟩:=ye c bz;refine Ys m d j f ?_;refine⟨s1.heap.objs.size,[s1.heap.objs.size],_,_,upd H1 a _,rfl,c.kept λb o e=>zo _ e,Z2 a _ o E F f,⟨_,zy _ rfl,rfl,rfl⟩,λb C=>?_,q o⟩
 have e :=by simpa using C
 subst e;exact c.fpOk (zc _) (c.hok.fresh (zc _))
def valN(b:List (NK×D))(k:NK):Option D:=(b.find? λp=>decide (p.1=k)).map (·.2)
def putN(b:List (NK×D))(k:NK)(d:D):List (NK×D):=
 if(b.any λp=>decide (p.1=k))=true then b.map (λp=>if p.1=k then(p.1,d) else p) else b++[(k,d)]
def DnR(K:Frag)(F:Hp)(c:List Addr)(xs:List (NK×V))(b:List (NK×D)):Prop:=xs.map (·.1)=b.map (·.1)/\Rps K F c (xs.map (·.2)) (b.map (·.2))
section
variable {K:Frag}{mg:Str->Option Value}{O:au}{H F H' F':Hp}{as as':List Addr}
def DnR.len{xs:List (NK×V)}{b:List (NK×D)}(h:DnR K F as xs b):xs.length=b.length:=by
 have:=congrArg List.length h.1
 simpa using this
def DnR.un{xs:List (NK×V)}{p:NK×D}{b:List (NK×D)}(h:DnR K F as xs (p::b)):∃v r,xs=(p.1,v)::r/\Rp K F as v p.2/\DnR K F as r b:=by
 obtain⟨h1,h2⟩:=h
 cases xs with
 |nil=>cases h1
 |cons x r =>
  obtain⟨v,j,e,f,d⟩:=h2.un;cases e;rw[zg,zg] at h1;have c:=(List.cons.inj h1).1;refine⟨x.2,r,?_,f,(List.cons.inj h1).2,d⟩;rw[<-c]
theorem DnR.val{k:NK}:∀{b:List (NK×D)}{xs:List (NK×V)},DnR K F as xs b->(valN b k=none/\dJ xs k=none)\/∃d v,valN b k=some d/\dJ xs k=some v/\Rp K F as v d
 | [],xs,h=>by
  have:=h.len
  cases xs with
  |nil=>exact .inl ⟨rfl,rfl⟩
  |cons=>cases this
 |p::b,xs,h=>by
  obtain⟨v,r,rfl,h1,h2⟩:=h.un
  by_cases e:p.1=k
  ·exact .inr ⟨p.2,v,by simp[valN,List.find?_cons,e],m7 e,h1⟩
  ·rw[show valN (p::b) k=valN b k by simp[valN,List.find?_cons,e],m8 (p:=(p.1,v)) e];exact DnR.val h2
theorem DnR.any{k:NK}:∀{b:List (NK×D)}{xs:List (NK×V)},DnR K F as xs b->(xs.any λp=>decide (p.1=k))=b.any λp=>decide (p.1=k)
 | [],xs,h=>by
  have:=h.len
  cases xs with
  |nil=>rfl
  |cons=>cases this
 |p::b,xs,h=>by
  obtain⟨v,r,rfl,h1,h2⟩:=h.un;rw[List.any_cons,List.any_cons,DnR.any h2]
theorem DnR.repl{k:NK}{v:V}{d:D}(hv:Rp K F as v d):∀{b:List (NK×D)}{xs:List (NK×V)},DnR K F as xs b ->
  DnR K F as (xs.map λp=>if p.1=k then(p.1,v) else p) (b.map λp=>if p.1=k then(p.1,d) else p)
 | [],xs,h=>by
  have:=h.len
  cases xs with
  |nil=>exact⟨rfl,Rps.nil⟩
  |cons=>cases this
 |p::b,xs,h=>by
  obtain⟨u,r,rfl,h1,h2⟩:=h.un;obtain⟨f,c⟩:=DnR.repl (k:=k) hv h2
  by_cases e:p.1=k
  ·rw[zg,zg,if_pos e,if_pos e];exact⟨by rw[zg,zg,f],Rps.cons hv c⟩
  ·rw[zg,zg,if_neg e,if_neg e];exact⟨by rw[zg,zg,f],Rps.cons h1 c⟩
def DnR.put{K:Frag}   (h:DnR K F as xs b)(k:NK)   (hv:Rp K F as v d):DnR K F as (putK xs k v) (putN b k d):=by
 unfold putK putN;rw[h.any]
 split
 ·exact h.repl hv
 ·exact⟨by rw[zN,zN,h.1];rfl,by rw[zN,zN];exact Rps.snoc h.2 hv⟩
def RlO.dn{n:Nat}{a:Addr}{b:List (NK×D)}(r:RlO K mg O H F as)(c:as[n]?=some a)(d:O[n]?=some (.dn b)):∃xs,H a=some (.dN K xs)/\DnR K F as xs b:=let ⟨xs,h1,h2,h3⟩:=r.ob n a _ c d;⟨xs,h1,h2,h3⟩
def RlO.nf{n:Nat}{a:Addr}{b:List (NK×D)}(r:RlO K mg O H F as)(c:as[n]?=some a)(d:O[n]?=some (.nf b)):∃o xs,H a=some (.frz o (.dN K xs))/\DnR K F as xs b:=let ⟨o,xs,h1,h2,h3⟩:=r.ob n a _ c d;⟨o,xs,h1,h2,h3⟩
end
def nQ:List D->Option (List Key)
 | []=>some []
 | .int i::ds=>(nQ ds).map (Sum.inl i :: ·)
 | .str l::ds=>(nQ ds).map (Sum.inr (S l) :: ·)
 | _=>none
def qj:D->Option NK
 | .tup [.int i,.tup ds]=>(nQ ds).map λb=>(i,b)
 | _=>none
theorem Rps.keysN{K:Frag}{F:Hp}{d:List Addr}:∀{ds:List D}{xs:List V}{ks:List Key},Rps K F d xs ds->nQ ds=some ks->xs=ks.map kV
 | [],xs,ks,h,e=>by cases e;exact h.un0
 | .int i::ds,xs,ks,h,e=>by
  obtain⟨x,r,rfl,h1,h2⟩:=h.un;obtain⟨c,b,rfl⟩:=jq.mp (show(nQ ds).map (Sum.inl i :: ·)=some ks from e);rw[h1.unI,Rps.keysN h2 b];rfl
 | .str l::ds,xs,ks,h,e=>by
  obtain⟨x,r,rfl,h1,h2⟩:=h.un;obtain⟨c,b,rfl⟩:=jq.mp (show(nQ ds).map (Sum.inr (S l) :: ·)=some ks from e);rw[h1.unS,Rps.keysN h2 b];rfl
 | .non::ds,xs,ks,h,e=>by cases e
 | .bl _::ds,xs,ks,h,e=>by cases e
 | .lst _::ds,xs,ks,h,e=>by cases e
 | .tup _::ds,xs,ks,h,e=>by cases e
 | .dic _ _::ds,xs,ks,h,e=>by cases e
 | .ob _::ds,xs,ks,h,e=>by cases e
def Hk:List Value->Bool
 | [.int _ _,.ref _]=>true
 | _=>false
def lr:Frag->Bool
 | []=>true
 |p::r=>(match p.2.data with
  | .seq its _=>!Hk its.toList
  | _=>true)&&lr r
theorem Hl    :∀{K:Frag},lr K=true->List.lookup a K=some o->o.data=.seq its n->Hk its.toList=false
 | [],_,h,_=>by cases h
 |p::r,hk,h,hd=>by
  unfold lr at hk;rw[zx] at hk;rw[List.lookup_cons] at h;split at h
  ·cases h
   have:=hk.1
   rw[hd] at this;simpa
  ·exact Hl hk.2 h hd
def Rp.nkey{K:Frag}{F:Hp}{P:List Addr}{v:V}{d:D}{k:NK}(E:lr K=true)(h:Rp K F P v d)(e:qj d=some k):∃b,v=.ref b/\NAt K F k b:=by
 unfold qj at e;split at e
 ·rename_i i W;obtain⟨U,O,rfl⟩:=jq.mp e;obtain⟨b,R,rfl,h1,h2⟩:=h.unT';obtain⟨x,r,rfl,h3,h4⟩:=h2.un;obtain⟨T,j,rfl,J,I⟩:=h4.un;obtain rfl:=I.un0;obtain⟨c,Q,rfl,m,G⟩:=J.unT';have L:=G.keysN O;rw[h3.unI] at h1
  rcases h1 with h1 | ⟨o,f,n,l1,_,l3,_,C⟩
  ·refine⟨b,rfl,c,h1,?_⟩;rw[L] at m;exact m
  ·exfalso
   have q:=Hl E l1 l3;have l5':aF [.int i,.ref c] f.toList:=C
   generalize f.toList=y at q l5'
   cases l5' with
   | @cons _ u _ y r1 j =>
    cases j with
    | @cons _ u2 _ us2 r3 r4 =>
     cases r4;obtain⟨t,rfl⟩:∃t,u=.int i t:=r1;obtain rfl:u2=Value.ref c:=r3;cases q
 ·cases e
noncomputable def uv:M D:=λ_ O=>.ok (.ob O.length) (O++[.dn []])
def Z5 :VE X md P (.Dict [] [] j) uv:=Z1.imp λσ H Q q p b=>by
 obtain⟨ρ,O,F,c,d,f,r,s,e,k⟩:=q;cases e;refine k _ _ F _ (Gr.snoc b) ((r.lay b).snocO (r.unF b) (λz=>r.all z b) ⟨[],bz,rfl,Rps.nil⟩) (Rp.mkO ?_);rw[<-r.len,zK (zc _),Nat.sub_self];rfl
def fU(mo my b:M D):MS:=λρ O=>match b ρ O with
 | .ok d O1=>match mo ρ O1 with
  | .ok (.ob n) O2=>match my ρ O2 with
   | .ok y O3=>match qj y,O3[n]? with
    |some k,some (.dn kvs)=>if kvs.length<1000000 then .nx ρ (O3.set n (.dn (putN kvs k d))) else .no
    | _,_=>.no
   | _=>.no
  | _=>.no
 | _=>.no
def Z6  (hk:lr X.K=true)(hr:aV kk X.A)    (ho:VE X md P o mo)(hi:VE X md P i my)(hv:VE X md P value mv)
  (hs:swapsWith value (some (.Subscript o i pos')) pos.line X.env=pure false:=by rfl):VS X md P R (.Assign [.Subscript o i pos'] value pos) (fU mo my mv):=
 (Z0 (n6 hr) ho hi hv hs).imp λD σ H q=>by
  obtain⟨ρ,O,F,as,r,s,k⟩:=q;unfold fU at k;split at k
  ·rename_i d O1 e1;split at k
   ·rename_i n O2 e2;split at k
    ·rename_i y O3 e3;split at k
     ·rename_i C kvs e4 e5;split at k
      ·rename_i hz;refine⟨ρ,O,F,as,_,_,r,s,e1,λv H1 F1 T I r1 hv=>⟨ρ,O1,F1,T,_,_,r1,s.step I,e2,λx H2 F2 Q G r2 hx=>⟨ρ,O2,F2,Q,_,_,r2,s.step (I.trans G),e3,λu Z J as3 E m hu=>?_⟩⟩⟩;obtain⟨a,rfl,ha⟩:=Rp.unO hx;have f:=E.at_ n a ha;obtain⟨j,W,U⟩:=m.dn f e5;obtain⟨b,rfl,hb⟩:=Rp.nkey hk hu e4;have L:=(hv).gr (G.trans E)
       have hl:j.length<sizeLine:=by rw[U.len];exact zI hz (by decide)
       have g4:Gr Z J _ (upd Z a (.dN X.K (putK j C v))) J _:=p6 (zL f) W;have Y:=((I.trans G).trans E).trans g4;obtain⟨z1,z2⟩:=U.put C L;exact⟨a,j,C,b,rfl,rfl,W,hb.mono λc ys hc=>m.fh _ _ hc,hl,k σ _ J _ Y.toS (m.mutG f ⟨_,bz,z1,z2⟩) (s.step Y)⟩
      ·exact False.elim k
     ·exact False.elim k
    ·exact False.elim k
   ·exact False.elim k
  ·exact False.elim k
def nsG(n:Nat)(y:D)(O:au):Res D:=match qj y,O[n]? with
 |some k,some (.nf kvs)=>match valN kvs k with
  |some d=>.ok d O
  |none=>.no
 |some k,some (.dn kvs)=>match valN kvs k with
  |some d=>.ok d O
  |none=>.no
 | _,_=>.no
def dg(mo my:M D):M D:=λρ O=>(mo ρ O).bind λx c=>match x with
 | .ob n=>(my ρ c).bind λy b=>nsG n y b
 | _=>.no
def Z7  (hk:lr X.K=true)(hr:aV kk X.A)    (ho:VE X md P o mo)(hi:VE X md P i my)(hs:sE i:=by intro _ _;rfl):VE X md P (.Subscript o i pos) (dg mo my):=
 (ZZ (n6 hr) ho hi hs).imp λσ H Q q=>by
  obtain⟨ρ,O,F,as,d,O',r,s,e,k⟩:=q;obtain⟨x,O1,e1,e⟩:=Res.bind_ok e
  cases x with
  |ob n =>
   obtain⟨y,O2,e2,e⟩:=Res.bind_ok e;unfold nsG at e;split at e
   ·rename_i Y kvs e3 e4;split at e
    ·rename_i d' f;cases e;refine⟨ρ,_,F,as,_,_,r,s,e1,λx H1 F1 C I W hx=>⟨ρ,_,F1,C,_,_,W,s.step I,e2,λu H2 F2 as2 G m Z=>?_⟩⟩;obtain⟨a,rfl,ha⟩:=Rp.unO hx;obtain⟨o,L,T,R⟩:=m.nf (G.at_ n a ha) e4;obtain⟨b,rfl,hb⟩:=Rp.nkey hk Z e3
     rcases R.val with⟨j,E⟩ | ⟨d2,U,j,E,J⟩
     ·rw[j] at f;cases f
     ·rw[j] at f;cases f;exact⟨a,U,rfl,⟨L,Y,b,.inr ⟨o,T⟩,rfl,hb.mono λc ys hc=>m.fh _ _ hc,E.symm⟩,k _ H2 F2 _ (I.trans G) m J⟩
    ·cases e
   ·rename_i Y kvs e3 e4;split at e
    ·rename_i d' f;cases e;refine⟨ρ,_,F,as,_,_,r,s,e1,λx H1 F1 C I W hx=>⟨ρ,_,F1,C,_,_,W,s.step I,e2,λu H2 F2 as2 G m Z=>?_⟩⟩;obtain⟨a,rfl,ha⟩:=Rp.unO hx;obtain⟨L,T,R⟩:=m.dn (G.at_ n a ha) e4;obtain⟨b,rfl,hb⟩:=Rp.nkey hk Z e3
     rcases R.val with⟨j,E⟩ | ⟨d2,U,j,E,J⟩
     ·rw[j] at f;cases f
     ·rw[j] at f;cases f;exact⟨a,U,rfl,⟨L,Y,b,.inl T,rfl,hb.mono λc ys hc=>m.fh _ _ hc,E.symm⟩,k _ H2 F2 _ (I.trans G) m J⟩
    ·cases e
   ·cases e
  | _=>cases e
def Hm{K:Frag}   (hb:H b=some (.tup xs))(hs:∃O,RlO K mg O H F as):∃c,Gr H F as H c as/\(∀O,RlO K mg O H F as->RlO K mg O H c as)/\c b=some (.tup xs):=by
 cases hF:F b with
 |some u =>
  obtain⟨f,d⟩:=hs
  have:=d.fh b u hF
  rw[hb] at this;cases this;exact⟨F,Gr.refl,λ_ r=>r,hF⟩
 |none=>exact⟨upd F b (.tup xs),Gr.tupF hb hF,λ_ r=>r.frz hb hF (r.noT hb) rfl,bz⟩
def Hn(p:NK×D):D:=.tup [.int p.1.1,.tup (p.1.2.map sZ)]
def nR(m:M D):M (List D):=λρ O=>(m ρ O).bind λd b=>match d with
 | .ob n=>match b[n]? with
  |some (.dn kvs)=>.ok (kvs.map Hn) (b.set n (.nf kvs))
  | _=>.no
 | _=>.no
def Z8   (h:VE X md P e m):VI X md P tg e (nR m):=(Z4 h).imp λσ H Q q=>by
 obtain⟨ρ,O,F,as,ds,O',r,s,e,k⟩:=q;obtain⟨d,O1,e1,e⟩:=Res.bind_ok e;split at e
 ·split at e
  ·rename_i I e2;cases e;refine⟨ρ,_,F,as,_,_,r,s,e1,λv H1 F1 as1 g1 T hv=>?_⟩;obtain⟨a,rfl,C⟩:=Rp.unO hv;obtain⟨xs,R,j⟩:=T.dn C e2;refine⟨a,xs,rfl,R,λo=>k _ _ F1 _ (g1.trans (p6 (zL C) R)) (T.mutG C ⟨o,xs,bz,j.1,j.2⟩) ⟨λi d H2 F2 L E u hd=>?_,λH2 F2 L E u=>?_⟩⟩
   ·have hz:=E.kz a o _ bz
    have W :=by have:=(zt.mp hd).1;rwa [zd] at this
    have hi':i<xs.length:=by rw[j.len];exact W
    refine⟨⟨xs,hz,hi'⟩,λx H3 y=>?_⟩;obtain⟨rfl,hy⟩:=y;obtain⟨b,p,rfl,hp,hb⟩:=hy xs hz
    have U:p.1=I[i].1:=by
     have h1:(xs.map (·.1))[i]?=some p.1:=by rw[zE,hp];rfl
     rw[j.1,zE,zw] at h1
     injection h1 with h1
     exact h1.symm
    rw[zE,zw W] at hd
    injection hd with hd
    subst hd;obtain⟨c,J,f⟩:=hb;obtain⟨O2,G⟩:=id u;obtain⟨F3,Z,f3,e3⟩:=Hm J u
    rcases f with f | f
    ·obtain⟨F4,Y,f4,e4⟩:=Hm f ⟨O2,f3 O2 G⟩;refine⟨F4,Z.trans Y,λO r=>f4 O (f3 O r),b,_,rfl,.inl (Y.ff _ _ e3),?_⟩;rw[<-U];exact Rps.cons (rfl) (Rps.cons ⟨c,_,rfl,.inl e4,uc _⟩ Rps.nil)
    ·refine⟨F3,Z,f3,b,_,rfl,.inl e3,?_⟩;rw[<-U];exact Rps.cons (rfl) (Rps.cons ⟨c,_,rfl,.inr f,uc _⟩ Rps.nil)
   ·exact⟨xs,E.kz a o _ bz,by rw[zd,j.len];exact zc _⟩
  ·cases e
 ·cases e
noncomputable def qm(i:Nat)(ms:MS):MS:=λρ O=>match ρ[i]? with
 |some (some (.ob n))=>match O[n]? with
  |some (.dn _)=>match ms ρ O with
   | .nx ρ2 O2=>match O2[n]? with
    |some (.nf kvs)=>.nx ρ2 (O2.set n (.dn kvs))
    | _=>.no
   | _=>.no
  | _=>.no
 | _=>.no
section
variable {K:Frag}{mg:Str->Option Value}{md:List Md}{P:Pt}{ρ:aM}{σ:St}{O:au}{H F H' F':Hp}{as as':List Addr}
def GrS.reHN{a:Addr}{h:HO}{xs:List (NK×V)}(g:GrS P H F as H' F' as')(d:a∈as)(hx:H a=some (.dN K xs)):GrS P H F as (upd H' a h) F' as' :=
 ⟨g.fz,g.ff,g.nw,λc o p e b hd=>by rw[aH (λz=>b (by rw[z];exact d))];exact g.fr c o p e b hd,λc e=>by
  by_cases z:c=a
  ·rw[z,bz] at e;cases e
  ·rw[aH z] at e;exact g.dm c e,λc o u e=>by rw[aH (λz=>by rw[z,hx] at e;cases e)];exact g.kz c o u e⟩
end
def Z9(i:Nat){st:Stmt}  (h:VS X md P R st ms):VS X md P R st (qm i ms):=λpins s σ H D I q=>by
 obtain⟨ρ,O,F,E,r,sl,k⟩:=q;unfold qm at k;split at k
 ·rename_i n Y;split at k
  ·rename_i kv0 W;split at k
   ·rename_i ρ2 Z U;split at k
    ·rename_i kvs T;obtain⟨a,m⟩:=sl.obAt Y;obtain⟨xs0,y,_⟩:=r.dn m W;have Q:=I.base0N y
     refine thn (h _ s σ H {nx:=λb c=>∃d j,GrS P H F E c d _/\RlO _ _ Z c d _/\SlO _ md P _ _ c d _,rt:=λ_ _=>False} I ⟨ρ,O,F,E,r,sl,by rw[U];exact λb c d j g r s=>⟨d,j,g,r,s⟩⟩) λf s' z=>?_
     cases f with
     |next =>
      obtain⟨b,c,I',d,j,g,C,L⟩:=z;have ha':=g.at_ n a m;have hm':=zL ha';obtain⟨o,J,G,x⟩:=C.nf ha' T;exact⟨b,_,I'.thawN G Q,k _ _ d _ (g.reHN (zL m) y) (C.mutG ha' ⟨J,bz,x.1,x.2⟩) (L.reH hm')⟩
     | brk
     |cont=>obtain⟨b,c,_,z⟩:=z;exact z.elim
     |ret u=>obtain⟨v,b,c,_,_,z⟩:=z;exact z.elim
    ·exact False.elim k
   ·exact False.elim k
  ·exact False.elim k
 ·exact False.elim k
end L2
namespace L2
open PySem PySem.Spec PyProof.Rows
def qp(l:List Nat)(i:Int):List Nat:=l++List.replicate (i.toNat - l.length) 32
def Qyj(l:List Nat)(i:Int):Txt.ljust (S l) i=S (qp l i):=by
 unfold Txt.ljust qp;rw[gJ]
 split
 ·rw[show i.toNat - l.length=0 by omega];simp
 ·unfold Builtin.Str.padded;simp[S]
def Qzc:V->List V->Hp->VK->Prop:=λx b H Q=>∃(l:List Nat) (i:Int),x=.str (S l)/\b=[.int i]/\-1000000<i/\i<1000000/\Q (.str (S (qp l i))) H
def Qtl:MtR X "str.ljust" Qzc:=by
 intro pins s σ H x E v F Q I d j h;obtain⟨l,i,rfl,rfl,h1,h2,q⟩:=h;obtain⟨a,rfl⟩:=d;obtain⟨u,rfl,f⟩:=vals1 j;obtain⟨b,rfl⟩:=f
 refine SC.ljust ?_ λc k=>⟨.str (S (qp l i)),H,I.tok _,⟨c,by rw[Qyj]⟩,q⟩
 unfold PadOk fitsSsize;have C:decide (i < -(2 ^ 63:Int))=false:=zk (by omega);have y:decide (i>=(2 ^ 63:Int))=false:=zk (by omega)
 have m:Builtin.Str.tooLong i.toNat=false:=by
  unfold Builtin.Str.tooLong;exact zk (by have:=sizeLine_eq;omega)
 rw[C,y,m];rfl
def uw(mo m:M D):M D:=λρ O=>(mo ρ O).bind λa d=>(m ρ d).bind λb c=>match a,b with
 | .str l,.int i=>if -1000000<i/\i<1000000 then .ok (.str (qp l i)) c else .no
 | _,_=>.no
def Qtm  {apos c:Pos}  (W:VE X md P o mo)(h:VE X md P e m)
  (y:attributeBase o "ljust" X.env (eval o X.env)=eval o X.env:=by rfl)
  (C:((backTo c (starEach [e] X.env)).all (λx=>!x.1)&&(backToKw c (keywordEach [] X.env)).all (λx=>x.1.isSome)&&decide ([e].length+([]:List Keyword).length+(if([]:List Keyword).isEmpty then 0 else 1)<30))=true:=by rfl)
  (j:(apos.endLine == c.line)=true:=by rfl) (hs:starEach [e] X.env=(false,eval e X.env)::starEach [] X.env:=by exact bZ rfl) (f:(backTo c (starEach [] X.env)).any (·.1)=false:=by exact cP rfl):
  OE X md P (.Call (.Attribute o "ljust" apos) [e] [] c) (uw mo m):=
 (lR PySem.F.plainAttrs_str PySem.F.slot_str_ljust PySem.F.type_str_ljust Qtl W (fO h gh hs) y C j hs f).imp λσ H Q q=>by
  obtain⟨ρ,O,F,as,d,O',r,s,e,k⟩:=q;obtain⟨a,O1,e1,e⟩:=Res.bind_ok e;obtain⟨b,O2,Z,e⟩:=Res.bind_ok e;split at e
  ·split at e
   ·rename_i I;cases e;refine⟨ρ,_,F,as,_,_,r,s,e1,λv H1 F1 G J R T=>?_⟩;cases Rp.unS T;refine⟨rfl,ρ,_,F1,G,_,_,R,s.step J,Z,λu H2 F2 E Y L U=>?_⟩;cases Rp.unI U;exact⟨_,_,rfl,rfl,I.1,I.2,k _ H2 F2 E (J.trans Y) L (.inl ⟨rfl,Rp.str⟩)⟩
   ·cases e
  ·cases e
end L2
namespace L2
open PySem PySem.Spec PyProof.Rows PySem.W
end L2
namespace L2
open PySem PySem.Spec PyProof.Rows PySem.W PySem.Calls
section
variable {prog:Program}{w:World}{A:Around}{E:Value->Shared->Prop}{s:Shared}
def Qx0      (hx:s.heap.get? a=some o)(y:o.cls=.type "list")(f:o.data=.seq xs k)(hd:o.dict=none)(I:A.handled=none)
  (h:∀h' tk,(∀b ob,s.heap.get? b=some ob->h'.get? b=some ob)->Q none {s with heap:=h',toks:=tk}):wpAny (model prog w) A (getAttr? (.ref a) "keys") Q E s:=by
 obtain⟨c,J,L,sl⟩:=o;simp only at y f hd;subst y f hd;obtain⟨G,g,d,tk,os⟩:=s
 have C:∀q,(⟨G,g,d,q,os⟩:Shared).TypeIs (.ref a) "list":=λ_=>⟨_,hx,rfl⟩
 have m:typeLookup (.type "list") "keys" = pure none:=am_miss_of_fast (by kernel_rfl)
 have j:(["__module__","__name__","__qualname__","__doc__","__annotations__"]:List Str).contains "keys" = false:=by decide
 have x:("keys":Str).length+100<=sizeLine:=by rw[sizeLine_eq];decide
 have T:=sub_AttributeError;have f3:=F.slot_list_getattribute.lookup;have f4:=F.slot_list_getattribute.bind (.ref a);have f5:=am_list_getattr_none;unfold getAttr? getAttrBy? getAttrBy
 repeat (any_goals (first | assumption | exact C _ | (refine call_meets F.slot_list_getattribute (C _) am_entry_list_getattribute (F.args_list_getattribute_2 _ _) (meets_getattribute_miss_list a xs k sl "keys" _ m j x) ⟨hx,I,λh' q e u=>?_⟩) | wp_step))
 obtain⟨P,O,R⟩:=u.there;show wpAny _ _ (getattributeRaised _ _ _ _ _ _ _) _ _ _;unfold getattributeRaised
 repeat (any_goals (first | assumption | wp_step))
 exact h _ _ u.keeps
def Ho:entryFor table "dict.update.loop" = some Builtin.«dict.update.loop»:=entryFor_of_tree (by kernel_rfl)
def ux:plainId "dict.update.loop" = true:=by decide +kernel
def pairs_at      (b:s.heap.get? a=some o)(c:o.cls=.type "tuple")(hd:o.data=.seq d m)(h:Q d.toList s):wpAny (model prog w) A (Builtin.Dict.pairItems (.ref a)) Q E s:=by
 refine za (wpAny_typeOf ⟨o,b,c⟩ ?_);refine za ?_;refine za (wpAny_load b ?_);rw[hd];exact zb (zb h)
theorem Hq:∀(more b:List (Key×Value)),(merged b more).length<=b.length+more.length
 | [],b=>zc _
 |p::r,b=>by
  have h1:=Hq r (stored b p.1 p.2)
  have h2:(stored b p.1 p.2).length<=b.length+1:=by
   unfold stored
   split
   ·rw[zd];omega
   ·rw[zf,zM];omega
  show(merged (stored _ _ _) r).length<=_;rw[zz];omega
def Qqd{R:Result->Shared->Prop}{I:Addr}{fp f:List Addr}{G:Array GenState->Array GenState->Prop}{n:Nat}{Pv:Nat->Value->Prop}{St:Nat->Shared->Prop}(W:WalksS prog w A.in1 I fp f G n Pv St)(S:Addr)(Q:S∉fp)(h0:Heap)(prs:List (Key×Value×Value))(hl:prs.length=n)(hz:n<=1000000)
  (hit:∀i v p,Pv i v->prs[i]?=some p->∃a o u m,v=.ref a/\a≠S/\a∉f/\h0.get? a=some o/\o.cls=.type "tuple"/\o.data=.seq u m/\u.toList=[p.2.1,p.2.2]/\(cO prog w).is p.1 p.2.1=true):
  ∀(k i:Nat) (s:Shared),n - i=k->i<=n->St i s->(∀b o,b≠S->b∉f->h0.get? b=some o->s.heap.get? b=some o)->s.heap.DictOf (cO prog w) S (merged [] ((prs.take i).map λp=>(p.1,p.2.2))) ->
   (∀c,Moved (S::f) G s c->c.heap.DictOf (cO prog w) S (merged [] (prs.map λp=>(p.1,p.2.2)))->R (.ok (.ret .none)) c) ->
   ∀j:Int,codeAny (model prog w) A (.builtin "dict.update.loop" ⟨[.ref S,.ref I,.int j 0,.none],[]⟩) R s:=by
 have P:S∉f:=λh=>Q (W.sub _ h)
 have d:∀b∈f,b∈S::f:=λb C=>zp _ C
 intro k
 induction k with
 |zero =>
  intro i s hk hi x hold Z hR j
  have hin:i=n:=by omega
  subst hin;refine zZ Ho ?_;rw[Around.under_plainId ux _];show wpAny _ A.in1 (pyNext (.ref I) >>= _) _ _ s;refine za (W.done s _ _ x λc q=>?_);show wpAny _ A.in1 (Builtin.Dict.addKeywords S [] >>= _) _ _ c;refine za (zb (zb (hR c (q.mono d) ?_)));rw[<-hl,List.take_length] at Z;obtain⟨o,es,ep,g1,g2⟩:=Z;exact⟨o,es,ep,q.heap S _ P g1,g2⟩
 |succ k ih =>
  intro i s hk hi x hold Z hR j
  have F:i<n:=by omega
  have hp:=zw (l:=prs) (i:=i) (by omega);refine zZ Ho ?_;rw[Around.under_plainId ux _];show wpAny _ A.in1 (pyNext (.ref I) >>= _) _ _ s;refine za (W.item i s _ _ F x λv c hP T q=>?_);obtain⟨a,o,u,m,rfl,ha1,O,ho,hc,hd,hi2,X⟩:=hit i v _ hP hp;have ho':c.heap.get? a=some o:=q.heap a o O (hold a o ha1 O ho)
  have hD':c.heap.DictOf (cO prog w) S (merged [] ((prs.take i).map λp=>(p.1,p.2.2))):=by
   obtain⟨o,es,ep,g1,g2⟩:=Z;exact⟨o,es,ep,q.heap S _ P g1,g2⟩
  dsimp only;refine za (zP (za (wpAny_tryCatch (pairs_at ho' hc hd ?_))));rw[hi2];dsimp only;refine zP (wpAny_dictSet_pairs X hD' (λh' hD2 y=>?_) ?_)
  ·refine zb ⟨plainId_quiet ux _,ih (i+1) _ (by omega) F (W.frame _ c _ _ T (Nat.le_succ _) λb C o e=>?_) (λb o L J e=>?_) ?_ (λs'' U Y=>?_) _⟩
   ·rw[y.2 b (λh:b=S=>Q (by rw[<-h];exact C))];exact e
   ·show h'.get? b=some o;rw[y.2 b L];exact q.heap b o J (hold b o L J e)
   ·rw[List.take_add_one,hp]
    have e:merged [] ((prs.take i++(some prs[i]).toList).map λp=>(p.1,p.2.2))=stored (merged [] ((prs.take i).map λp=>(p.1,p.2.2))) prs[i].1 prs[i].2.2:=by
     rw[Option.toList_some,zN];unfold merged;rw[List.foldl_append];rfl
    rw[e];exact hD2
   ·refine hR s'' (Moved.trans W.gtrans ((q.mono d).then_heap (Nat.le_succ _) λb o C e=>?_) U) Y;rw[y.2 b (λh:b=S=>C (by rw[h];exact ze))];exact e
  ·have:=Hq ((prs.take i).map λp=>(p.1,p.2.2)) []
   rw[zd,List.length_take,zW] at this;rw[sizeLine_eq];omega
set_option maxHeartbeats 8000000 in
def QpF   {prs:List (Key×Value×Value)}  (X:A.handled=none)(I:s.heap.get? l=some (seqObj "list" items 0)\/∃c,s.heap.get? l=some (seqObj "list" items c))(hn:prs.length=items.size)(hz:items.size<=1000000)
  (P:∀(i:Nat) (v:Value) (p:Key×Value×Value),items[i]?=some v->prs[i]?=some p->∃(a:Addr) (o:Obj) (f:Array Value) (m:Nat),v=.ref a/\s.heap.get? a=some o/\o.cls=.type "tuple"/\o.data=.seq f m/\f.toList=[p.2.1,p.2.2]/\(cO prog w).is p.1 p.2.1=true)
  (h:∀h' tk,h'.DictOf (cO prog w) s.heap.objs.size (merged [] (prs.map λp=>(p.1,p.2.2)))->(∀b o,s.heap.get? b=some o->h'.get? b=some o)->Q (.ref s.heap.objs.size) {s with heap:=h',toks:=tk}):
  wpAny (model prog w) A (call (.type "dict") [.ref l]) Q E s:=by
 obtain⟨c,I⟩:∃c,s.heap.get? l=some (seqObj "list" items c):=by
  rcases I with h | h
  ·exact⟨0,h⟩
  ·exact h
 refine callType_codes (Q₁:=λobj q=>obj=.ref s.heap.objs.size/\q = {s with heap:=s.heap.push _}) F.kt_called_dict (F.kt_typeCall_dict_1 _) F.entry_dict_init (kt_code_dict_new _ ⟨rfl,rfl⟩) ?_;rintro obj q ⟨rfl,rfl⟩;have d:(s.heap.push _).DictOf (cO prog w) s.heap.objs.size []:=Heap.DictOf.new s.heap;have u:(s.heap.push {cls:=.type "dict",data:=.dict #[]}).get? l=some (seqObj "list" items c):=zo _ I;refine⟨d.typeIs,F.args_dict_init_2 _ _,?_⟩;refine za ?_;refine za (wpAny_notOrdered_dict d.typeIs ?_);refine zb ?_;show wpAny _ _ (Builtin.Dict.updateFrom "dict.__init__" s.heap.objs.size (.ref l) [] .none) _ _ _
 refine za (wpAny_typeOf (T:="list") ⟨_,u,rfl⟩ ?_);refine za (Qx0 u rfl rfl rfl (by simp[X]) λh' tk keep=>?_);rw[if_pos (by rfl)];refine za (zY ?_);have y:=keep _ _ u;refine za (wpAny_pyIter_list ⟨_,y,rfl,c,rfl⟩ ?_);have j :=zj (keep _ _ (zy _ rfl));have x:l<s.heap.objs.size:=zj I;refine zb ⟨plainId_quiet ux _,?_⟩;have C:l≠h'.objs.size:=zq (Nat.lt_trans x j)
 have R:s.heap.objs.size∉[h'.objs.size,l]:=by
  simp only[zl,zm,List.not_mem_nil,or_false,not_or];exact⟨zq j,Nat.ne_of_gt x⟩
 have O:h'.IsList l items:=⟨_,y,rfl,c,rfl⟩;refine Qqd ((Walks.list (by simp[X]) _ l C items).toS) s.heap.objs.size R h' prs hn hz (λi v p hv hp=>?_) (items.size - 0) 0 _ (by omega) (Nat.zero_le _) ⟨⟨_,zy _ rfl,rfl,rfl⟩,O.push _⟩ (λb o _ _ e=>zo _ e) ?hD (λs' G U=>?hR) _
 ·obtain⟨a,o,f,m,rfl,W,hc,hd,hi,hk⟩:=P i v p hv hp;have Z:=zj W;refine⟨a,o,f,m,rfl,zq Z,?_,keep _ _ (zo _ W),hc,hd,hi,hk⟩;rw[zm];exact zq (Nat.lt_trans Z j)
 case hD =>
  obtain⟨o,es,ep,g1,g2⟩:=d;exact⟨o,es,ep,zo _ (keep _ _ g1),g2⟩
 case hR =>
  obtain⟨h3,g3,d3,J,L⟩:=s';have eg:g3=s.gens:=G.gens;have ed:d3=s.drawn:=G.drawn;have eo:L=s.os:=G.os;subst eg;subst ed;subst eo;refine⟨rfl,h h3 J U λb o e=>?_⟩;have Y:=zj e;exact G.heap b o (by simp only[zl,zm,List.not_mem_nil,or_false,not_or];exact⟨zq Y,zq (Nat.lt_trans Y j)⟩) (zo _ (keep _ _ (zo _ e)))
end
def nU(K:Frag)(H:Hp):List V->List (Key×V)->Prop
 |ys,[]=>ys=[]
 |ys,p::r=>∃b c,ys=.ref b::c/\SqT K H b [kV p.1,p.2]/\nU K H c r
def Qza(K:Frag):List V->Hp->VK->Prop:=λd H Q=>∃a c b,d=[.ref a]/\RdK K H a c/\nU K H c b/\b.length<=1000000/\∀l,H l=none->Q (.ref l) (upd H l (.dK (j8 [] b)))
theorem nU.prs{pins:List (Addr×Obj)}{σ:St}{H:Hp}{s:Shared}(I:Inv X pins σ H s):∀{f:List (Key×V)}{ys:List V}{c:List Value},nU X.K H ys f->aF ys c->∃prs:List (Key×Value×Value),prs.length=c.length/\f.length=c.length/\KV f (prs.map λp=>(p.1,p.2.2)) /\
  ∀(i:Nat) (v:Value) (p:Key×Value×Value),c[i]?=some v->prs[i]?=some p->∃(a:Addr) (o:Obj) (j:Array Value) (m:Nat),v=.ref a/\s.heap.get? a=some o/\o.cls=.type "tuple"/\o.data=.seq j m/\j.toList=[p.2.1,p.2.2]/\(cO X.prog X.w).is p.1 p.2.1=true
 | [],ys,c,h,r=>by
  cases(show ys=[] from h);cases r;exact⟨[],rfl,rfl,.nil,λi v p e=>by cases e⟩
 |q::f,ys,c,h,r=>by
  obtain⟨b,L,rfl,h1,h2⟩:=h
  cases r with
  | @cons _ u _ us a1 r =>
   cases(show u=Value.ref b from a1);obtain⟨prs,G,F,E,C⟩:=nU.prs I h2 r;obtain⟨j,d,⟨o,e,J,n,hd⟩,_⟩:=I.tuple h1
   cases d with
   | @cons _ k' _ _ a2 d =>
    cases d with
    | @cons _ v' _ _ a3 d =>
     cases d;refine⟨(q.1,k',v')::prs,by rw[zz,zz,G],by rw[zz,zz,F],.cons ⟨rfl,a3⟩ E,λi v p y x=>?_⟩
     cases i with
     |zero =>
      cases y;cases x;exact⟨b,o,_,n,rfl,e,J,hd,rfl,m9 a2⟩
     |succ i=>exact C i v p y x
def QpB(F:X.calm=true):fK X (.type "dict") (Qza X.K):=by
 intro pins s σ H U W Q I r h;obtain⟨a,T,b,rfl,G,C,E,q⟩:=h;obtain⟨u,rfl,c⟩:=vals1 r;cases c;obtain⟨_,R,n,d,e⟩:=G.ok I;obtain⟨prs,x,m,j,f⟩:=C.prs I d
 refine QpF (I.ok.hd F) (.inr ⟨n,e⟩) (by rw[x,zF]) (by rw[zF,<-m];exact E) (λi v p P O=>f i v p (by simpa using P) O) λY tk L k=>?_
 have y:(j8 [] b).length<=sizeLine:=by
  have h1:=Ep b [];rw[zW] at h1;rw[sizeLine_eq];omega
 have J :=beq_eq_false_iff_ne.mpr (Nat.ne_of_gt I.big);exact⟨.ref _,_,I.laid k (zc _) (Em y J (j.merge .nil) L),rfl,q _ (I.hok.fresh (zc _))⟩
def mj:List D->Option (List (Key×D))
 | []=>some []
 |d::r=>match d,mj r with
  | .tup [k,v],some l=>(keyOf k).map λb=>(b,v)::l
  | _,_=>none
def qt(b:List (Key×D)):List (Key×D):=b.foldl (λc p=>dj c p.1 p.2) []
theorem Hr{K:Frag}{F H:Hp}{j:List Addr}(fh:Same F H):∀{ds:List D}{ys:List V}{b:List (Key×D)},Rps K F j ys ds->mj ds=some b->∃xs,nU K H ys xs/\DkR K F j xs b
 | [],ys,b,h,e=>by
  cases e;exact⟨[],h.un0,rfl,Rps.nil⟩
 |d::ds,ys,b,h,e=>by
  obtain⟨y,c,rfl,h1,h2⟩:=h.un;unfold mj at e;split at e
  ·rename_i k v l q
   cases hk:keyOf k with
   |none=>rw[hk] at e;cases e
   |some k' =>
    rw[hk] at e;cases e;obtain⟨xs,u,f⟩:=Hr fh h2 q;obtain⟨a,I,rfl,a1,a2⟩:=h1.unT;obtain⟨J,zr,rfl,G,E⟩:=a2.un;obtain⟨m,zr,rfl,C,x⟩:=E.un;cases x.un0;cases G.key hk;exact⟨(k',m)::xs,⟨a,c,rfl,Same.seqT fh a1,u⟩,by rw[zg,zg,f.1],Rps.cons C f.2⟩
  ·cases e
theorem DkR.merge{K:Frag}{F:Hp}{d:List Addr}:∀{b:List (Key×D)}{xs:List (Key×V)}{ks:List (Key×D)}{c:List (Key×V)},DkR K F d xs b->DkR K F d c ks->DkR K F d (j8 c xs) (b.foldl (λf p=>dj f p.1 p.2) ks)
 | [],xs,ks,c,h,g=>by
  have:=h.len
  cases xs with
  |nil=>exact g
  |cons=>cases this
 |p::b,xs,ks,c,h,g=>by
  obtain⟨v,r,rfl,h1,h2⟩:=h.un;have q:=DkR.merge h2 (g.put p.1 h1);exact q
def DkR.gr{K:Frag}     (h:DkR K F d xs b)(g:Gr H F d j f c):DkR K f c xs b:=⟨h.1,h.2.gr g⟩
def uy(ma:M (List D)):M D:=λρ O=>(ma ρ O).bind λd c=>match d.map (aW c) with
 | [.lst es]=>match mj es with
  |some b=>if b.length<=1000000 then .ok (.ob c.length) (c++[.dk (qt b)]) else .no
  |none=>.no
 | _=>.no
def Qt6  {Y L:Pos}   (hc:X.calm=true)(E:X.mg "dict" = none)(ha:AE X md P ms [e] ma)(G:Gl X "dict":=by rfl)
  (he:starEach [e] X.env=(false,eval e X.env)::starEach [] X.env:=by exact bZ rfl) (C:(backTo L (starEach [] X.env)).any (·.1)=false:=by exact cP rfl):VE X md P (.Call (.Name "dict" Y) [e] [] L) (uy ma):=by
 refine(wI (QpB hc) G E (by decide +kernel) ha (by decide) (by decide) he C).imp λσ H Q q=>?_
 obtain⟨ρ,O,F,as,d,O',r,s,e,k⟩:=q;obtain⟨ds,O1,e1,e⟩:=Res.bind_ok e;refine⟨ρ,_,F,as,_,_,r,s,e1,λvs T m b g1 c Z=>?_⟩;have f:=Z.lks c
 generalize hds:ds.map (aW O1)=es at e f
 split at e
 ·rename_i ds0;obtain⟨v,rfl,y⟩:=f.one;split at e
  ·rename_i x hj;split at e
   ·rename_i hlen;cases e;obtain⟨p,U,rfl,h1,h2⟩:=y.list c.fh;obtain⟨u,W,J⟩:=Hr c.fh h2 hj;refine⟨p,U,u,rfl,h1,W,by rw[J.len];exact hlen,λl j=>?_⟩;have R:Gr T m b (upd T l (.dK (j8 [] u))) m (b++[l]):=Gr.snoc j;have I:DkR X.K m (b++[l]) (j8 [] u) (qt x):=(J.merge ⟨rfl,Rps.nil⟩).gr R;refine k _ _ m (b++[l]) (g1.trans R) ((c.lay j).snocO (c.unF j) (λz=>c.all z j) ⟨_,bz,I.1,I.2⟩) (Rp.mkO ?_);rw[<-c.len,zK (zc _),Nat.sub_self];rfl
   ·cases e
  ·cases e
 ·cases e
end L2
namespace L2
open PySem PySem.Spec PyProof.Rows PySem.W PySem.Builtin PySem.Builtin.Str
end L2
namespace L2
open PySem PySem.Spec PyProof.Rows PySem.W
def mkD{K:Frag}  {st:Stmt}     {kV:Value}(X:K.In h)(G:h.Ns mainGlobals mg)(a:nsIn K mainGlobals x=some (some (.ref f)))(l:K.lookup f=some ⟨j,d,.func (fnOf x x (dI st) (cL st) (aZ st) .none kV dc pm m b ct),sl⟩)(c:codeIn K b x=true)(k:keepIn K (.ref f)=true):Def K mg x st:=⟨_,_,mg_of X G a,El l c k⟩
structure ClsAt(K:Frag)(c:Str)(A:Addr):Prop where
 ns:nsIn K mainGlobals c=some (some (.ref A))
 pg:plainGet K A Str.empty=true
 hd:hasDictIn K A=true
 po:plainOver K A=true
 sa:findIn K (.ref A) "__setattr__" = some (some (.builtin "object.__setattr__"))
 mks:makesIn K A=true
 kc:keepIn K (.ref A)=true
def MethAt(K:Frag)(A:Addr)(m qual:Str)(st:Stmt):Prop:=∃f fd,findIn K (.ref A) m=some (some (.ref f))/\isFn K (.ref f)=true/\keepIn K (.ref f)=true/\Fun K m qual st f fd
def mkM{K:Frag}   {st:Stmt}     {kV:Value}(a:findIn K (.ref A) m=some (some (.ref f)))(i:isFn K (.ref f)=true)(l:K.lookup f=some ⟨q,j,.func (fnOf m b (dI st) (cL st) (aZ st) .none kV dc pm u d ct),sl⟩)(c:codeIn K d b=true)(k:keepIn K (.ref f)=true):MethAt K A m b st:=⟨_,_,a,i,k,El l c k⟩
def ClsAt.cl{K:Frag}(z:ClsAt K c A):Cls K A:=⟨z.pg,z.hd,z.po,z.sa⟩
def ClsAt.dm{K:Frag}(z:ClsAt K c A)(X:K.In h)(G:h.Ns mainGlobals mg)  {st:Stmt}(q:MethAt K A m d st):b8 K mg c m d st:=by
 obtain⟨f,fd,a,i,k,b⟩:=q;exact⟨_,_,_,mg_of X G z.ns,z.cl,⟨a,i,k⟩,b⟩
def ClsAt.dc{K:Frag}(z:ClsAt K c A)(X:K.In h)(G:h.Ns mainGlobals mg)  {st:Stmt}(q:MethAt K A "__init__" d st):nO K mg c d st:=by
 obtain⟨f,fd,a,i,k,b⟩:=q;exact⟨_,_,_,mg_of X G z.ns,⟨z.mks,a,i,z.kc⟩,b⟩
def ClsAt.kf{K:Frag}(z:ClsAt K c A)(X:K.In h)(G:h.Ns mainGlobals mg)  (n:findIn K (.ref A) f=some none):KC K mg c f:=⟨_,mg_of X G z.ns,z.cl,n⟩
end L2
namespace L2
open PySem PySem.Spec PyProof.Rows
def QwP     (h:AE X md P (List.replicate es.length .v) es r):VE X md P (.Tuple es c b) (aU r):=UJ _ h
def QvY    (h:AE X md P (List.replicate es.length .v) es r):OE X md P (.List es b) (bh r):=UG _ h
def QuE{X:Cx}{md:List Md}{P:Pt}   {b:Pos}  (h:tZ X.K X.mg x ls)(d:m=mC (.tup (ls.map D.str)):=by rfl)(f:Gl X x:=by rfl)(c:(x == ("__debug__":Str))=false:=by decide):VE X md P (.Name x b) m:=d ▸ X8 h f c
def Hs{K:Frag}(N H F b):rV K N H F b .non .non:=Rp.non
def QCr{K:Frag}(N H F b):rO K N H F b .non .non:=.inl ⟨rfl,Rp.non⟩
end L2
namespace L2
open PySem PySem.Spec PyProof.Rows PySem.W
def yg(K:Frag)(mg:Str->Option Value)(c qual:Str)(st:Stmt)(j:Array Value):Prop:=∃(C f:Addr) (x:Value) (u:Option Addr) (T:Addr) (kV m q:Value) (y:Option Addr) (b ct:Value) (d:Array (Option Value)) (o:Obj) (n:Nat),
 mg c=some (.ref C)/\Mk K C f/\K.lookup f=some ⟨x,u,.func (fnOf "__init__" qual (dI st) (cL st) (aZ st) (.ref T) kV m q y b ct),d⟩/\codeIn K b qual=true/\K.lookup T=some o/\o.data=.seq j n
inductive uz (P:Program) (w:World) (K:Frag) (mg:Str->Option Value) (base:Heap) (c:Str) (ps:List Str) (ds:List Value) (k:Nat) (sp:Sp):Prop
 | mk:∀C f fd,mg c=some (.ref C)->Mk K C f->Binds K fd ps []->Binds K fd ps ds->cG P w K mg base CX0 k f fd ps sp->uz P w K mg base c ps ds k sp
section
variable {Pr:Program}{w:World}{K:Frag}{mg:Str->Option Value}{base:Heap}
def MethAtD(K:Frag)(A:Addr)(qual:Str)(st:Stmt)(d:Array Value):Prop:=∃(f:Addr) (u:Value) (q:Option Addr) (T:Addr) (kV j m:Value) (x:Option Addr) (b ct:Value) (c:Array (Option Value)) (o:Obj) (n:Nat),
 findIn K (.ref A) "__init__" = some (some (.ref f))/\isFn K (.ref f)=true/\K.lookup f=some ⟨u,q,.func (fnOf "__init__" qual (dI st) (cL st) (aZ st) (.ref T) kV j m x b ct),c⟩/\codeIn K b qual=true/\K.lookup T=some o/\o.data=.seq d n
def QCv{K:Frag}   {st:Stmt}     {kV:Value}
  (a:findIn K (.ref A) "__init__" = some (some (.ref f))) (i:isFn K (.ref f)=true) (l:K.lookup f=some ⟨m,j,.func (fnOf "__init__" b (dI st) (cL st) (aZ st) (.ref T) kV dc pm q d ct),sl⟩) (e:codeIn K d b=true) (t:K.lookup T=some ⟨x,u,.seq c n,tl⟩):MethAtD K A b st c :=
 ⟨f,m,j,T,kV,dc,pm,q,d,ct,sl,_,n,a,i,l,e,t,rfl⟩
def ClsAt.dcd{A:Addr}{c:Str}(z:ClsAt K c A){h:Heap}(X:K.In h)(G:h.Ns mainGlobals mg){qual:Str}{st:Stmt}{b:Array Value}(q:MethAtD K A qual st b):yg K mg c qual st b:=by
 obtain⟨f,u,m,T,kV,dc,j,y,x,ct,sl,o,n,a,i,l,e,t,d⟩:=q;exact⟨_,f,u,m,T,kV,dc,j,y,x,ct,sl,o,n,mg_of X G z.ns,⟨z.mks,a,i,z.kc⟩,l,e,t,d⟩
def QzX{Pr:Program}{w:World}{K:Frag}{base:Heap}  {st:Stmt}  {k:Nat}  (Df:yg K mg c qual st its)(S:gj N ps (aZ st))
  (hb:∀(T:Addr) (kV u pm:Value) (y:Option Addr) (j ct:Value) (us:List Value),us.length=ps.length->∃g,bindArgs (fnOf "__init__" qual (dI st) (cL st) (aZ st) (.ref T) kV u pm y j ct) ⟨us,[]⟩=seqItems? (.ref T) >>= g/\g (some its)=pure (ps.zip us))
  (m:Nat) (hb2:∀(T:Addr) (kV u pm:Value) (y:Option Addr) (j ct:Value) (us:List Value),us.length=m->∃g,bindArgs (fnOf "__init__" qual (dI st) (cL st) (aZ st) (.ref T) kV u pm y j ct) ⟨us,[]⟩=seqItems? (.ref T) >>= g/\g (some its)=pure (ps.zip (us++its.toList)))
  (pm lm:List Md)  {b:MS} (hR:eO R) (hR0:∀N H F G,R N H F G .non .non) (hm:m+its.toList.length=ps.length:=by rfl) (Y:pm.length=ps.length:=by rfl) (x:(pm++lm).length=N.length:=by rfl) (hp:∀m∈pm,m≠.o:=by decide)
  (body:∀(f:Addr) (j:Value) (A:Around) (outer:List Env) (s:Shared) (H:Hp) (E:XK),aV k (A.deeper (envOfC qual (aZ st) s.heap.objs.size f j))->∀P,VSs ((gk CX0 Pr w K mg base N qual (aZ st) f j A outer s H E).nox) (pm++lm) P R (cL st) b):
  uz Pr w K mg base c ps its.toList (k+1) (vSp K mg pm R (aL N.length b)):=by
 obtain⟨C,f,oc,od,T,kV,u,pmv,y,j,ct,osl,o,n,h1,h2,lk,Z,ht,hd⟩:=Df;refine⟨C,f,_,h1,h2,λs us U x=>?_,λs us U x=>?_,DX lk Z S (λvs H Q E h=>?_) λA outer s H vs Q E hr h=>?_⟩
 ·rw[zJ] at x ⊢;obtain⟨g,L,J⟩:=hb T kV _ _ y _ ct us x;exact BindsTo.of_defaults rfl (U _ _ ht) hd L J
 ·rw[zf] at x;obtain⟨g,L,J⟩:=hb2 T kV _ _ y _ ct us (by omega);exact BindsTo.of_defaults rfl (U _ _ ht) hd L J
 ·obtain⟨ds,O,F,G,d,O',r,a,_⟩:=h;rw[a.len.1,Y]
 ·obtain⟨ds,O,F,G,d,O',r,a,e,q⟩:=h;refine⟨_,(body f _ A _ s H E hr (Pt.all H)).nox,?_⟩;refine⟨_,O,F,G,r,xn a x hp,?_⟩;unfold aL at e
  cases eb:b _ O<;>rw[eb] at e<;>cases e
  ·exact λσ' W X as' g I _=>q _ W X _ g.gr I (hR0 _ _ _ _)
  ·exact λv W X as' g I hv=>q v W X _ g.gr I (hR _ _ _ _ _ _ _ (λc hc=>Classical.not_not.mp hc) hv)
theorem bO.snoc{H F:Hp}{b:List Addr}{v:V}{d:D}(h:Rp K F b v d):∀{ms:List Md}{vs:List V}{ds:List D},bO K H F b ms vs ds->bO K H F b (ms++[.v]) (vs++[v]) (ds++[d])
 | [],[],[],_=>⟨h,True.intro⟩
 | _::_,_::_,_::_,q=>⟨q.1,bO.snoc h q.2⟩
end
noncomputable def maD(m:M (List D))(d:D):M (List D):=λρ O=>(m ρ O).bind λb c=>.ok (b++[d]) c
def Quo{p j:Pos}(M:uz X.prog X.w X.K X.mg X.base c ps [.bool b] k (vSp X.K X.mg (.v::pm) (rV X.K) cf))(T:aV (k+1) X.A)(Z:AE X md P pm.dropLast (e::es) ma)(u:pm=pm.dropLast++[.v]:=by rfl)(W:Gl X c:=by rfl)(G:(c == ("__debug__":Str))=false:=by decide)
  (Y:starEach (e::es) X.env=(false,eval e X.env)::starEach es X.env:=by exact bZ rfl) (y:(backTo j (starEach es X.env)).any (·.1)=false:=by exact cP rfl):VE X md P (.Call (.Name c p) (e::es) [] j) (dD c cf (maD ma (.bl b))):=by
 obtain⟨C,f,fd,h1,h3,h4,h5,h6⟩:=M
 refine(DK (E:=E0) (dvs:=[.bl b]) h3 h6 T W h1 h5 (.cons rfl .nil) lU Z G Y y).imp λσ H Q q=>?_
 obtain⟨ρ,O,F,as,ds,O1,r,s,e1,q⟩:=xE (E:=E0) h1 q;obtain⟨I,O2,e2,e3⟩:=Res.bind_ok e1;cases e3;refine⟨ρ,O,F,as,I,O1,r,s,e2,λL H1 F1 J g1 R m x dx hx hd U=>?_⟩;have h2:=m.snoc (v:=.bl b) (d:=.bl b) Rp.bl;rw[<-u] at h2
 have:=q (L++[.bl b]) H1 F1 J g1 R h2 x dx hx hd U
 rwa [zJ] at this
end L2
namespace L2
open PySem PySem.Spec PyProof.Rows
def ofO(o:Option D)(O:au):Res D:=match o with
 |some d=>.ok d O
 |none=>.no
@[simp] theorem gW  :ofO (some d) O=.ok d O:=rfl
@[simp] theorem aO  {a:α}  {f:α->au->Res β}:(Res.ok a O).bind f=f a O:=rfl
@[simp] theorem QBN :aW O .non=.non:=rfl
@[simp] theorem lu  :aW O (.bl b)=.bl b:=rfl
@[simp] theorem gY  :aW O (.int b)=.int b:=rfl
@[simp] theorem lz  :aW O (.str b)=.str b:=rfl
@[simp] theorem nW  :aW O (.lst b)=.lst b:=rfl
@[simp] theorem QBG  :aW O (.tup b)=.tup b:=rfl
@[simp] theorem QBM  :aW O (.dic a b)=.dic a b:=rfl
@[simp] theorem fV   :aa i ρ O=(match ρ[i]? with | some (some d)=>.ok d O | _=>.no):=rfl
@[simp] theorem m_c   :mC d ρ O=.ok d O:=rfl
@[simp] theorem uA    :ak g a b ρ O=(a ρ O).bind λx O1=>(b ρ O1).bind λy c=>ofO (g (aW c x) (aW c y)) c:=rfl
def gF(r:Res D):Res D:=match r with
 | .ok d O'=>if iC d=true then .ok d O' else .no
 |r=>r
@[simp] theorem m_g   :mG m ρ O=gF (m ρ O):=rfl
@[simp] theorem QzI  :gF (.ok (.int i) O)=.ok (.int i) O:=rfl
@[simp] theorem QDF  :gF (.ok (.str i) O)=.ok (.str i) O:=rfl
@[simp] theorem QDR  :gF (.ok (.bl i) O)=.ok (.bl i) O:=rfl
@[simp] theorem QDC :gF (.ok .non O)=.ok .non O:=rfl
@[simp] theorem QDv  :gF (.ok (.tup l) O)=.ok (.tup l) O:=rfl
@[simp] theorem QD7  :gF (.ok (.ob n) O)=.ok (.ob n) O:=rfl
def chF(o:Option D)(O:au)(f:Unit->Res D):Res D:=match o with
 |some (.bl true)=>f ()
 |some (.bl false)=>.ok (.bl false) O
 | _=>.no
@[simp] theorem QA3   :chF (some (.bl b)) O f=if b=true then f () else .ok (.bl false) O:=by cases b<;>rfl
@[simp] theorem Ht    :fQ g g' a b c ρ O=(a ρ O).bind λx O1=>(b ρ O1).bind λy d=>chF (g (aW d x) (aW d y)) d λ_=>(c ρ d).bind λz f=>ofO (g' (aW f y) (aW f z)) f:=by
 unfold fQ;congr 1
@[simp] theorem QAK   :jE m ρ O=(m ρ O).bind λd O1=>.ok (.bl (isNon d)) O1:=rfl
@[simp] theorem QDq   :iG m ρ O=(m ρ O).bind λd O1=>.ok (.bl (!isNon d)) O1:=rfl
@[simp] theorem QBP:isNon .non=true:=rfl
@[simp] theorem QBK :isNon (.lst l)=false:=rfl
@[simp] theorem QBH :isNon (.tup l)=false:=rfl
@[simp] theorem QBJ :isNon (.str l)=false:=rfl
@[simp] theorem QBI :isNon (.int l)=false:=rfl
@[simp] theorem QCa :isNon (.ob l)=false:=rfl
def teF(d:D)(O:au):Res Bool:=match d with
 | .bl b=>.ok b O
 | _=>.no
@[simp] theorem uB  :teF (.bl b) O=.ok b O:=rfl
@[simp] theorem uC   :az m ρ O=(m ρ O).bind teF:=rfl
def ofB(o:Option Bool)(O:au):Res Bool:=match o with
 |some d=>.ok d O
 |none=>.no
@[simp] theorem nY  :ofB (some d) O=.ok d O:=rfl
@[simp] theorem iR   :bj m ρ O=(m ρ O).bind λd O1=>ofB (nD (aW O1 d)) O1:=rfl
@[simp] theorem lA :nD (.bl b)=some b:=rfl
@[simp] theorem QCT :nD (.lst b)=some (!b.isEmpty):=rfl
@[simp] theorem qw   :bQ a b ρ O=(a ρ O).bind λc O1=>if c=true then b ρ O1 else .ok false O1:=rfl
@[simp] theorem lB   :bL a b ρ O=(a ρ O).bind λc O1=>if c=true then .ok true O1 else b ρ O1:=rfl
@[simp] theorem jN   :bY a ρ O=(a ρ O).bind λc O1=>.ok (!c) O1:=rfl
def anF(d:D)(O:au)(f:Unit->Res D):Res D:=match d with
 | .bl true=>f ()
 | .bl false=>.ok (.bl false) O
 | _=>.no
def orF(d:D)(O:au)(f:Unit->Res D):Res D:=match d with
 | .bl true=>.ok (.bl true) O
 | .bl false=>f ()
 | _=>.no
@[simp] theorem QDQ   :anF (.bl b) O f=if b=true then f () else .ok (.bl false) O:=by cases b<;>rfl
@[simp] theorem QDN   :orF (.bl b) O f=if b=true then .ok (.bl true) O else f ():=by cases b<;>rfl
@[simp] theorem Qye   :d7 a b ρ O=(a ρ O).bind λd O1=>anF d O1 λ_=>b ρ O1:=by
 congr 1
@[simp] theorem QDM   :Vd a b ρ O=(a ρ O).bind λd O1=>orF d O1 λ_=>b ρ O1:=by
 congr 1
def noF(d:D)(O:au):Res D:=match d with
 | .bl b=>.ok (.bl (!b)) O
 | _=>.no
@[simp] theorem QEk  :noF (.bl b) O=.ok (.bl (!b)) O:=rfl
@[simp] theorem QDk   :tH a ρ O=(a ρ O).bind noF:=rfl
@[simp] theorem lC    :mIf t a b ρ O=(t ρ O).bind λc O1=>if c=true then a ρ O1 else b ρ O1:=rfl
@[simp] theorem jO  :ao ρ O=.ok [] O:=rfl
@[simp] theorem gZ    :aj m r ρ O=(m ρ O).bind λd O1=>(r ρ O1).bind λds b=>.ok (d::ds) b:=rfl
@[simp] theorem Hu   :bh r ρ O=(r ρ O).bind λds O1=>if ds.length<=1000000 then .ok (.lst ds) O1 else .no:=rfl
@[simp] theorem yh   :aU r ρ O=(r ρ O).bind λds O1=>if ds.length<=1000000 then .ok (.tup ds) O1 else .no:=rfl
@[simp] theorem mq    :aC c ma ρ O=(ma ρ O).bind λds O1=>c ds O1:=rfl
@[simp] theorem qx    :aK g ma ρ O=(ma ρ O).bind λds O1=>ofO (g (ds.map (aW O1))) O1:=rfl
@[simp] theorem QEq    :mUn g ma ρ O=(ma ρ O).bind λd O1=>ofO (g (aW O1 d)) O1:=rfl
def isF(n:String)(o:Option String)(O:au):Res D:=match o with
 |some t=>.ok (.bl (dC t n)) O
 |none=>.no
@[simp] theorem yj  :isF n (some t) O=.ok (.bl (dC t n)) O:=rfl
@[simp] theorem ym    :cZ n m ρ O=(m ρ O).bind λd O1=>isF n (tyD (aW O1 d)) O1:=rfl
@[simp] theorem QC6:tyD .non=some "NoneType":=rfl
@[simp] theorem QDG :tyD (.bl b)=some "bool":=rfl
@[simp] theorem QDe :tyD (.int b)=some "int":=rfl
@[simp] theorem Qwk :tyD (.str b)=some "str":=rfl
@[simp] theorem Qv8 :tyD (.lst b)=some "list":=rfl
@[simp] theorem QDc :tyD (.tup b)=some "tuple":=rfl
@[simp] theorem QDi :tyD (.dic a b)=some "dict":=rfl
@[simp] theorem QEr  :moN ρ O=.ok none O:=rfl
def osF(d:D)(O:au):Res (Option Int):=match d with
 | .int i=>.ok (some i) O
 | _=>.no
@[simp] theorem QAJ  :osF (.int i) O=.ok (some i) O:=rfl
@[simp] theorem QB9   :moS m ρ O=(m ρ O).bind osF:=rfl
@[simp] theorem QCW  {b:M (Option Int)}  :mSl m b j ρ O=(m ρ O).bind λd O1=>(b ρ O1).bind λl f=>(j ρ f).bind λh c=>ofO (gSl (aW c d) l h) c:=rfl
@[simp] theorem Hv  {b:Option Int}:gSl (.str l) b c=if l.length<=16777216 then some (.str (cz l b c)) else none:=rfl
@[simp] theorem Hw  {b:Option Int}:gSl (.lst l) b c=some (.lst (cz l b c)):=rfl
@[simp] theorem QDa  {b:Option Int}:gSl (.tup l) b c=some (.tup (cz l b c)):=rfl
def g8(f:Fl)(b:MS):Fl:=match f with
 | .nx ρ' O'=>b ρ' O'
 |r=>r
@[simp] theorem cM   :aq a b ρ O=g8 (a ρ O) b:=rfl
@[simp] theorem gH   :g8 (.nx ρ O) b=b ρ O:=rfl
@[simp] theorem QDd   :g8 (.rt d O) b=.rt d O:=rfl
@[simp] theorem QDh   :g8 (.bk ρ O) b=.bk ρ O:=rfl
@[simp] theorem QC5   :g8 (.ct ρ O) b=.ct ρ O:=rfl
@[simp] theorem QC4 :g8 .no b=.no:=rfl
@[simp] theorem uD  :aG ρ O=.nx ρ O:=rfl
def lD(r:Res D):Fl:=match r with
 | .ok d O'=>.rt d O'
 | .ex x O'=>.ex x O'
 | .no=>.no
@[simp] theorem dF   :aA m ρ O=lD (m ρ O):=rfl
@[simp] theorem yo  :lD (.ok d O)=.rt d O:=rfl
def Hx(r:Res D)(ρ:aM):Fl:=match r with
 | .ok _ O'=>.nx ρ O'
 | .ex x O'=>.ex x O'
 | .no=>.no
@[simp] theorem qy   :fC m ρ O=Hx (m ρ O) ρ:=rfl
@[simp] theorem uE   :Hx (.ok d O) ρ=.nx ρ O:=rfl
def ifF(r:Res Bool)(a b:MS)(ρ:aM):Fl:=match r with
 | .ok c O'=>if c=true then a ρ O' else b ρ O'
 | .ex x O'=>.ex x O'
 | .no=>.no
@[simp] theorem iT    :aD t a b ρ O=ifF (t ρ O) a b ρ:=rfl
@[simp] theorem nZ    :ifF (.ok c O) a b ρ=if c=true then a ρ O else b ρ O:=rfl
def qz(i:Nat)(r:Res D)(ρ:aM):Fl:=match r with
 | .ok d O'=>.nx (ρ.set i (some d)) O'
 | .ex x O'=>.ex x O'
 | .no=>.no
@[simp] theorem qC    :aB i m ρ O=qz i (m ρ O) ρ:=rfl
@[simp] theorem qD    :qz i (.ok d O) ρ=.nx (ρ.set i (some d)) O:=rfl
def Hy(r:Res (List D))(g:MG)(b:MS)(ρ:aM):Fl:=match r with
 | .ok ds O'=>bB g b ds ρ O'
 | .ex x O'=>.ex x O'
 | .no=>.no
@[simp] theorem n8     :cA m g b ρ O=Hy (m ρ O) g b ρ:=rfl
@[simp] theorem oh     :Hy (.ok ds O) g b ρ=bB g b ds ρ O:=rfl
@[simp] theorem mg_n   :mgN i d ρ=some (ρ.set i (some d)):=rfl
def bu(f:Fl):Res D:=match f with
 | .rt d O'=>.ok d O'
 | .nx _ O'=>.ok .non O'
 | .ex x O'=>.ex x O'
 | _=>.no
@[simp] theorem Hz    :aL n b ds O=bu (b (ds.map some++List.replicate (n - ds.length) none) O):=rfl
@[simp] theorem HB  :bu (.rt d O)=.ok d O:=rfl
@[simp] theorem HD  :bu (.nx ρ O)=.ok .non O:=rfl
@[simp] theorem QzM   :gw m ρ O=(m ρ O).bind λds O1=>match ds with
 | [.int j]=>if j<=1000000000/\-1000000000<=j then .ok (gR 0 j.toNat) O1 else .no
 | _=>.no:=rfl
def itF(o:Option (List D))(O:au):Res (List D):=match o with
 |some b=>.ok b O
 |none=>.no
@[simp] theorem yp  :itF (some ds) O=.ok ds O:=rfl
@[simp] theorem ou   :bF m ρ O=(m ρ O).bind λd O1=>itF (lY d) O1:=rfl
@[simp] theorem Qr8 :lY (.lst ds)=some ds:=rfl
@[simp] theorem QBO :lY (.tup ds)=some ds:=rfl
def yq  (h:ascii l=true):lY (.str l)=some (cH l):=by
 show(if ascii l=true then some _ else none)=_;rw[if_pos h]
@[simp] theorem qF        :b7 m own cap g t e ρ O=(m ρ O).bind λds O1=>if ds.length<=1000000 then(cj g t e ds (eU own cap ρ) O1 []).bind λys b=>.ok (.lst ys) b else .no:=rfl
@[simp] theorem QDA :aJ (.int i) (.int j)=some (.int (i+j)):=rfl
@[simp] theorem HF :aJ (.str a) (.str b)=if a.length+b.length<=1000000 then some (.str (a++b)) else none:=rfl
@[simp] theorem QDy :aJ (.lst a) (.lst b)=if a.length+b.length<=1000000 then some (.lst (a++b)) else none:=rfl
@[simp] theorem QB5 :dO (.int i) (.int j)=some (.int (i - j)):=rfl
@[simp] theorem Qz6 :bC (.int i) (.int j)=if 0<j then some (.int (i % j)) else none:=by
 unfold bC gI
 by_cases  0<j<;>simp
@[simp] theorem QDf :kI (.int i) (.int j)=if 0<j/\j<1073741824 then some (.int (i / j)) else none:=by
 unfold kI gI
 by_cases  0<j/\j<1073741824<;>simp
def HH  (h:(-(2 ^ 64)<i/\i<2 ^ 64)\/(-(2 ^ 64)<j/\j<2 ^ 64)):gP (.int i) (.int j)=some (.int (i * j)):=by
 unfold gP
 dsimp
 rw[if_pos];rw[Bool.or_eq_true];unfold nG;rw[zx,zx,decide_eq_true_eq,decide_eq_true_eq,decide_eq_true_eq,decide_eq_true_eq];exact h
@[simp] theorem QDS :gLt (.int i) (.int j)=some (.bl (decide (i<j))):=rfl
@[simp] theorem QDW :gGt (.int i) (.int j)=some (.bl (decide (j<i))):=rfl
@[simp] theorem QDU :gGe (.int i) (.int j)=some (.bl (decide (j<=i))):=rfl
@[simp] theorem QAS :gLe (.int i) (.int j)=some (.bl (decide (i<=j))):=rfl
def HJ(a b:Nat):(([a]:List Nat) < [b])↔a<b:=by
 constructor
 ·intro h
  rcases List.cons_lt_cons_iff.mp h with h | ⟨_,h⟩
  ·exact h
  ·exact absurd h (List.not_lt_nil _)
 ·intro h;exact List.cons_lt_cons_iff.mpr (.inl h)
@[simp] theorem QEe :gLe (.str [a]) (.str [b])=some (.bl (decide (a<=b))):=by
 show some _=_
 have:decide ([b] < [a])=decide (b<a):=by
  by_cases h:b<a
  ·rw[zu h,zu ((HJ _ _).mpr h)]
  ·rw[zk h,zk λz=>h ((HJ _ _).mp z)]
 rw[this]
 by_cases h:b<a
 ·rw[zu h,zk (by omega)];rfl
 ·rw[zk h,zu (by omega)];rfl
@[simp] theorem QDY :gEq (.int i) (.int j)=some (.bl (decide (i=j))):=rfl
@[simp] theorem QBt :gEq (.str i) (.str j)=some (.bl (decide (i=j))):=rfl
@[simp] theorem QEg :gEq (.bl i) (.bl j)=some (.bl (decide (i=j))):=rfl
@[simp] theorem QAL :gEq (.lst i) (.lst j)=if(okE (.lst i)&&okE (.lst j))=true then some (.bl (iI (.lst i) (.lst j))) else none:=rfl
@[simp] theorem yr :gNe (.int i) (.int j)=some (.bl (!decide (i=j))):=rfl
@[simp] theorem QBe :gNe (.str i) (.str j)=some (.bl (!decide (i=j))):=rfl
@[simp] theorem QEj :gNe (.bl i) (.bl j)=some (.bl (!decide (i=j))):=rfl
@[simp] theorem HN :gNe (.lst i) (.lst j)=if(okE (.lst i)&&okE (.lst j))=true then some (.bl (!iI (.lst i) (.lst j))) else none:=rfl
@[simp] theorem HQ   :gIn n (.str [c]) (.str l)=some (.bl (n ^^ decide (c∈l))):=rfl
def HR  :gIx (.lst ds) (.int i)=atI ds i:=rfl
def HS  :gIx (.str l) (.int i)=if l.length<=1000000 then(atI l i).map (λc=>.str [c]) else none:=rfl
@[simp] theorem HW :aP [.str l]=if l.length<=1000000 then some (.int l.length) else none:=rfl
@[simp] theorem Qyu :aP [.lst l]=some (.int l.length):=rfl
@[simp] theorem QDK :aP [.tup l]=some (.int l.length):=rfl
@[simp] theorem QDw :Wo [.int i,.int j]=some (.int (if j>i then j else i)):=rfl
@[simp] theorem QDm :Wq [.int i,.int j]=some (.int (if j<i then j else i)):=rfl
@[simp] theorem QDo :Gj [.int i]=some (.int i):=rfl
@[simp] theorem QDD :Gj [.bl b]=some (.int (if b then 1 else 0)):=rfl
@[simp] theorem QDH:iH (.int 10) (.int 18)=some (.int 1000000000000000000):=by rfl
@[simp] theorem QDt:iH (.int 10) (.int 9)=some (.int 1000000000):=by rfl
@[simp] theorem qG  {xs:List α}{j:Nat}:atI xs (j:Int)=xs[j]?:=by
 unfold atI ixN;rw[if_pos (by omega)]
 by_cases  j<xs.length
 ·rw[if_pos (by omega)];simp
 ·rw[if_neg (by omega),jr (by omega)];rfl
def HY  {xs:List α}{i:Int}(h0:0<=i)(h1:i<xs.length):∃x,atI xs i=some x/\x∈xs:=by
 obtain⟨j,rfl⟩:=Int.eq_ofNat_of_zero_le h0
 have b:j<xs.length:=by omega
 exact⟨xs[j],by show atI xs (j:Int)=_;rw[qG,zw b],jh b⟩
section
variable {c:Prop}[Decidable c]
@[simp] theorem QBU{a b:Fl}:bu (if c then a else b)=if c then bu a else bu b:=by split<;>rfl
@[simp] theorem QCL{a b:Res D}:lD (if c then a else b)=if c then lD a else lD b:=by split<;>rfl
@[simp] theorem QCE{a b:Fl}{r:MS}:g8 (if c then a else b) r=if c then g8 a r else g8 b r:=by split<;>rfl
@[simp] theorem QCI{α β:Type}{a b:Res α}{f:α->au->Res β}:(if c then a else b).bind f=if c then a.bind f else b.bind f:=by split<;>rfl
@[simp] theorem QC1{a b:Res Bool}{x y:MS}{ρ:aM}:ifF (if c then a else b) x y ρ=if c then ifF a x y ρ else ifF b x y ρ:=by split<;>rfl
@[simp] theorem QCn{a b:Res D}{i:Nat}{ρ:aM}:qz i (if c then a else b) ρ=if c then qz i a ρ else qz i b ρ:=by split<;>rfl
@[simp] theorem QDg{a b:Option D}{O:au}:ofO (if c then a else b) O=if c then ofO a O else ofO b O:=by split<;>rfl
end
@[simp] theorem Qyf:dC "str" "str" = true:=by decide
@[simp] theorem QDu:dC "int" "str" = false:=by decide
@[simp] theorem QDI:dC "bool" "str" = false:=by decide
@[simp] theorem QDJ:dC "list" "str" = false:=by decide
@[simp] theorem QDs:dC "tuple" "str" = false:=by decide
@[simp] theorem QDx:dC "dict" "str" = false:=by decide
@[simp] theorem QDj:dC "NoneType" "str" = false:=by decide
@[simp] theorem QDp:dC "int" "int" = true:=by decide
@[simp] theorem QDE:dC "int" "bool" = false:=by decide
@[simp] theorem QC3:dC "bool" "bool" = true:=by decide
@[simp] theorem Qwr:dC "list" "list" = true:=by decide
@[simp] theorem QC9:dC "tuple" "tuple" = true:=by decide
@[simp] theorem QC7:dC "NoneType" "list" = false:=by decide
theorem uF   (f:Nat->aM->au->Prop):∀(ds:List D) (k:Nat) (ρ:aM) (O:au),f k ρ O ->
  (∀i d ρ O,ds[i]?=some d->f (k+i) ρ O->∃ρ1,g d ρ=some ρ1/\∃ρ2 j,(b ρ1 O=.nx ρ2 j\/b ρ1 O=.ct ρ2 j)/\f (k+i+1) ρ2 j)->∃ρ' c,bB g b ds ρ O=.nx ρ' c/\f (k+ds.length) ρ' c
 | [],k,ρ,O,h,_=>⟨ρ,O,rfl,h⟩
 |d::ds,k,ρ,O,h,hs=>by
  obtain⟨ρ1,y,ρ2,j,m,h2⟩:=hs 0 d ρ O rfl h
  obtain⟨ρ',c,x,h3⟩:=uF f ds (k+1) ρ2 j h2 λi C ρ' c u q=>by
   have:=hs (i+1) C ρ' c (by simpa using u) (by rw[show k+(i+1)=k+1+i by omega];exact q)
   rw[show k+(i+1)+1=k+1+i+1 by omega] at this;exact this
  refine⟨ρ',c,?_,by rw[zz,show k+(ds.length+1)=k+1+ds.length by omega];exact h3⟩;unfold bB;rw[y];dsimp only
  rcases m with m | m<;>rw[m]<;>exact x
theorem H9    (c:aM->Prop)(f:D->D):∀(ds:List D) (ρ:aM) (O:au) (b:List D),c ρ->(∀d∈ds,∀ρ,c ρ->∃ρ1,g d ρ=some ρ1/\c ρ1/\t ρ1 O=.ok true O/\m ρ1 O=.ok (f d) O)->cj g t m ds ρ O b=.ok (b++ds.map f) O
 | [],ρ,O,b,_,_=>by simp[cj]
 |d::ds,ρ,O,b,h,hs=>by
  obtain⟨ρ1,x,h1,u,q⟩:=hs d ze ρ h;unfold cj;rw[x];dsimp only;rw[u];dsimp only;rw[q];dsimp only;rw[H9 c f ds ρ1 O _ h1 λy j=>hs y (zp _ j)];simp
theorem Ia{g:MG}{t:M Bool}{m:M D}(c:aM->Prop)(p:D->Bool):∀(ds:List D) (ρ:aM) (O:au) (b:List D),c ρ->(∀d∈ds,∀ρ,c ρ->∃ρ1,g d ρ=some ρ1/\c ρ1/\t ρ1 O=.ok (p d) O/\m ρ1 O=.ok d O)->cj g t m ds ρ O b=.ok (b++ds.filter p) O
 | [],ρ,O,b,_,_=>by simp[cj]
 |d::ds,ρ,O,b,h,hs=>by
  obtain⟨ρ1,y,h1,x,u⟩:=hs d ze ρ h
  have j:=λb=>Ia c p ds ρ1 O b h1 λC f=>hs C (zp _ f)
  unfold cj;rw[y];dsimp only;rw[x]
  cases q:p d with
  |true =>
   dsimp only;rw[u];dsimp only;rw[j,List.filter_cons,q];simp
  |false =>
   dsimp only;rw[j,List.filter_cons,q];simp
@[simp] theorem QDL  :XC ρ O=.ok [] O:=rfl
@[simp] theorem QC8    :XD a b r ρ O=(a ρ O).bind λx O1=>(b ρ O1).bind λy d=>(r ρ d).bind λps c=>.ok ((x,y)::ps) c:=rfl
def diF(o:Option (List Key))(b:List (D×D))(O:au):Res D:=match o with
 |some c=>if c.Nodup/\b.length<=15 then .ok (.dic (b.map (·.1)) (b.map (·.2))) O else .no
 |none=>.no
@[simp] theorem QCc   :diF (some ks) b O=if ks.Nodup/\b.length<=15 then .ok (.dic (b.map (·.1)) (b.map (·.2))) O else .no:=rfl
@[simp] theorem QDn   :XH m ρ O=(m ρ O).bind λb O1=>diF (keysOf b) b O1:=rfl
@[simp] theorem QC2 :keyOf (.int i)=some (.inl i):=rfl
@[simp] theorem QDb :keyOf (.str i)=some (.inr (S i)):=rfl
@[simp] theorem QAw:keysOf []=some []:=rfl
@[simp] theorem QAg  :keysOf ((a,b)::r)=(keyOf a).bind λk=>(keysOf r).map (k :: ·):=rfl
def joF(o:Option (List (List Nat)))(O:au):Res D:=match o with
 |some ls=>if(ls.map List.length).sum<=1000000 then .ok (.str ls.flatten) O else .no
 |none=>.no
@[simp] theorem Qte  :joF (some ls) O=if(ls.map List.length).sum<=1000000 then .ok (.str ls.flatten) O else .no:=rfl
def jdF(d:D)(O:au):Res D:=match d with
 | .lst ds=>joF (gC ds) O
 | _=>.no
@[simp] theorem QA6  :jdF (.lst ds) O=joF (gC ds) O:=rfl
@[simp] theorem QxV   :lX m ρ O=(m ρ O).bind λd O1=>jdF (aW O1 d) O1:=rfl
theorem Ib{α:Type}{f:α->List Nat}:∀l:List α,gC (l.map λx=>.str (f x))=some (l.map f)
 | []=>rfl
 |x::l=>by
  show(gC _).map _=_;rw[Ib];rfl
@[simp] theorem QDV   :eU own cap ρ=List.replicate own none++cap.map λj=>(ρ[j]?).join:=rfl
@[simp] theorem QBL      :cj g t m [] ρ O b=.ok b O:=rfl
theorem oA:∀ds:List D,gQ ds=ds.map toP
 | []=>rfl
 |d::ds=>by rw[gQ,oA];rfl
theorem uG:∀{ds:List D},(∀d∈ds,d9 d=true)->jH ds=true
 | [],_=>rfl
 |d::ds,h=>by rw[jH,h d ze,uG λx hx=>h x (zp _ hx)];rfl
def Ie  (b:n<60)  (h:∀d∈ds,d9 d=true/\(toP d).canLay0=true/\(toP d).depth<=n):okE (.lst ds)=true:=by
 unfold okE;rw[zx];refine⟨?_,?_⟩
 ·exact uG λd hd=>(h d hd).1
 ·rw[toP,oA]
  refine Uh b λd hd=>?_
  obtain⟨x,hx,rfl⟩:=zA.mp hd;exact(h x hx).2
def uH  (h:∀c∈l,c<1114112):(PyData.str (S l)).canLay0=true:=by
 show PyData.strOk _=true;unfold PyData.strOk S;simp;exact h
def yt  (h:okE d=true):iI d d=true:=by
 unfold okE at h;rw[zx] at h
 have:=h.2
 unfold okD at this;rw[zx] at this;exact SeqAt.eqv_refl _ this.1
def it(f:Int->Int):Nat->Int->Int
 | 0,x=>x
 |n+1,x=>f (it f n x)
def mix(n k:Int):Int:=if n>1000000000000000000 then it (λr=>r / 1000000000) k.toNat n % 1000000000
 else
  let m:=it (λm=>(m * 48271+104729) % 2147483629) (k+2).toNat (n % 2147483647+7919)
  m * m % 998244353 / 11
def Ig(j:Nat)(x:Int)(h0:0<=x)(h1:x<2147491566):0<=it (λm=>(m * 48271+104729) % 2147483629) j x/\it (λm=>(m * 48271+104729) % 2147483629) j x<2147491566:=by
 induction j with
 |zero=>exact⟨h0,h1⟩
 |succ j ih =>
  refine⟨jt _ (by decide),?_⟩
  have:=ju (it (λm=>(m * 48271+104729) % 2147483629) j x * 48271+104729) (show(0:Int)<2147483629 by decide)
  show(it (λm=>(m * 48271+104729) % 2147483629) j x * 48271+104729) % 2147483629<_;omega
def yu:MS:=(aq (aD (az (ak gGt (aa 0) (ak iH (mC (.int 10)) (mC (.int 18))))) (aq (aB 2 (mG (aa 0)))
  (aq (cA (gw (aj (aa 1) ao)) (mgN 3) (aB 2 (ak kI (aa 2) (ak iH (mC (.int 10)) (mC (.int 9))))))
  (aA (ak bC (aa 2) (ak iH (mC (.int 10)) (mC (.int 9))))))) aG)
  (aq (aB 4 (ak aJ (ak bC (aa 0) (mC (.int 2147483647))) (mC (.int 7919))))
  (aq (cA (gw (aj (ak aJ (aa 1) (mC (.int 2))) ao)) (mgN 3) (aB 4 (ak bC (ak aJ (ak gP (aa 4) (mC (.int 48271))) (mC (.int 104729))) (mC (.int 2147483629)))))
  (aA (ak kI (ak bC (ak gP (aa 4) (aa 4)) (mC (.int 998244353))) (mC (.int 11)))))))
def Ih(b:Int)(n:Nat):(gR b n).length=n:=by simp[gR]
def QzB(n k:Int)(h0:0<=k)(h1:k<=1000000)(O:au):aL 5 yu [.int n,.int k] O=.ok (.int (mix n k)) O:=by
 unfold mix
 by_cases C:n>1000000000000000000
 ·obtain⟨y,f,e,rfl,c,rfl⟩:=uF (g:=mgN 3) (b:=aB 2 (ak kI (aa 2) (ak iH (mC (.int 10)) (mC (.int 9)))))
   (λi ρ f=>f=O/\∃c,ρ=[some (.int n),some (.int k),some (.int (it (λr=>r / 1000000000) i n)),c,none]) (gR 0 k.toNat) 0 [some (.int n),some (.int k),some (.int n),none,none] O ⟨rfl,none,rfl⟩ (by
    rintro i d ρ f hi ⟨rfl,c,rfl⟩;refine⟨_,rfl,?_⟩;simp;rw[show it (λr=>r / 1000000000) (i+1) n=it (λr=>r / 1000000000) i n / 1000000000 from rfl]
    exact⟨_,_,⟨rfl,rfl⟩,rfl,_,rfl⟩)
  rw[Ih,jm] at e
  have x:k<=1000000000/\-1000000000<=k:=by omega
  simp[yu,C,x,e]
 ·have u:0<=n % 2147483647+7919:=by have:=jt n (show(2147483647:Int)≠0 by decide);omega
  have q:n % 2147483647+7919<2147491566:=by have:=ju n (show(0:Int)<2147483647 by decide);omega
  obtain⟨y,f,e,rfl,c,rfl⟩:=uF (g:=mgN 3) (b:=aB 4 (ak bC (ak aJ (ak gP (aa 4) (mC (.int 48271))) (mC (.int 104729))) (mC (.int 2147483629))))
   (λi ρ f=>f=O/\∃c,ρ=[some (.int n),some (.int k),none,c,some (.int (it (λm=>(m * 48271+104729) % 2147483629) i (n % 2147483647+7919)))]) (gR 0 (k+2).toNat) 0 [some (.int n),some (.int k),none,none,some (.int (n % 2147483647+7919))] O ⟨rfl,none,rfl⟩ (by
    rintro i d ρ f hi ⟨rfl,c,rfl⟩;refine⟨_,rfl,?_⟩;obtain⟨G,F⟩:=Ig i _ u q
    have:=HH (i:=it (λm=>(m * 48271+104729) % 2147483629) i (n % 2147483647+7919)) (j:=48271) (.inr ⟨by decide,by decide⟩)
    simp[this]
    rw[show it (λm=>(m * 48271+104729) % 2147483629) (i+1) (n % 2147483647+7919)=(it (λm=>(m * 48271+104729) % 2147483629) i (n % 2147483647+7919) * 48271+104729) % 2147483629 from rfl]
    exact⟨_,_,⟨rfl,rfl⟩,rfl,_,rfl⟩)
  rw[Ih,jm] at e
  have x:k+2<=1000000000/\-1000000000<=k+2:=by omega
  obtain⟨G,F⟩:=Ig (k+2).toNat _ u q;have E:=HH (i:=it (λm=>(m * 48271+104729) % 2147483629) (k+2).toNat (n % 2147483647+7919)) (j:=it (λm=>(m * 48271+104729) % 2147483629) (k+2).toNat (n % 2147483647+7919)) (.inl ⟨by omega,by omega⟩);simp[yu,C,x,e,E]
def eE(b:List Str)(f:Str)(d:D)(O:au):Res D:=match d with
 | .ob n=>match O[n]? with
  |some (.ins c fs)=>if c∈b then match fs.lookup f with
   |some y=>.ok y O
   |none=>.no else .no
  | _=>.no
 | _=>.no
@[simp] theorem Ii     :aX b f m ρ O=(m ρ O).bind (eE b f):=rfl
def puF(b:List Str)(f:Str)(d:D)(ρ:aM)(r:Res D):Fl:=match r with
 | .ok (.ob n) O2=>match O2[n]? with
  |some (.ins c fs)=>if c∈b/\fs.length<900 then .nx ρ (O2.set n (.ins c (putD f d fs))) else .no
  | _=>.no
 | _=>.no
def sfF(b:List Str)(f:Str)(mo:M D)(r:Res D)(ρ:aM):Fl:=match r with
 | .ok d O1=>puF b f d ρ (mo ρ O1)
 | .ex x O'=>.ex x O'
 | .no=>.no
@[simp] theorem yw     :bI c f mo b ρ O=sfF c f mo (b ρ O) ρ:=by
 unfold bI sfF puF
 cases b ρ O<;>rfl
@[simp] theorem yx      :sfF b f mo (.ok d O) ρ=puF b f d ρ (mo ρ O):=rfl
def meF(c m:Str)(cf:List D->au->Res D)(ma:au->Res (List D))(d:D)(O1:au):Res D:=match d with
 | .ob n=>match O1[n]? with
  |some (.ins c' fs)=>if c'=c/\(fs.lookup m).isNone=true then(ma O1).bind λb f=>cf (.ob n::b) f else .no
  | _=>.no
 | _=>.no
@[simp] theorem uI      :aN c m cf mo ma ρ O=(mo ρ O).bind (meF c m cf (ma ρ)):=rfl
def mkF(n:Nat)(r:Res D):Res D:=match r with
 | .ok .non O2=>.ok (.ob n) O2
 | .ok _ _=>.no
 | .ex x O2=>.ex x O2
 | .no=>.no
@[simp] theorem yz     :dD c cf ma ρ O=(ma ρ O).bind λds O1=>mkF O1.length (cf (.ob O1.length::ds) (O1++[.ins c []])):=by
 unfold dD;congr 1
@[simp] theorem yC  :mkF n (.ok .non O)=.ok (.ob n) O:=rfl
def apF(i:Nat)(r:Res D)(ρ:aM):Fl:=match r with
 | .ok d O'=>match ρ[i]? with
  |some (some (.lst ds))=>if ds.length<1000000 then .nx (ρ.set i (some (.lst (ds++[d])))) O' else .no
  | _=>.no
 | .ex x O'=>.ex x O'
 | .no=>.no
@[simp] theorem uJ    :dR i m ρ O=apF i (m ρ O) ρ:=rfl
def uK      (h:ρ[i]?=some (some (.lst ds)))(b:ds.length<1000000):apF i (.ok d O) ρ=.nx (ρ.set i (some (.lst (ds++[d])))) O:=by
 unfold apF;rw[h];dsimp ;rw[if_pos b]
def exF(i:Nat)(r:Res D)(ρ:aM):Fl:=match r with
 | .ok d O'=>match ρ[i]?,aW O' d with
  |some (some (.lst ds)),.lst es=>if ds.length+es.length<=1000000 then .nx (ρ.set i (some (.lst (ds++es)))) O' else .no
  | _,_=>.no
 | .ex x O'=>.ex x O'
 | .no=>.no
@[simp] theorem Ij    :gD i m ρ O=exF i (m ρ O) ρ:=rfl
def Ik     (h:ρ[i]?=some (some (.lst ds)))(b:ds.length+es.length<=1000000):exF i (.ok (.lst es) O) ρ=.nx (ρ.set i (some (.lst (ds++es)))) O:=by
 unfold exF;rw[h];dsimp ;rw[if_pos b]
def enF(d:D)(O1:au):Res (List D):=match d with
 | .lst ds=>.ok (c7 0 ds) O1
 | .str l=>if ascii l=true then .ok (c7 0 (cH l)) O1 else .no
 | _=>.no
@[simp] theorem QDl   :pZ m ρ O=(m ρ O).bind enF:=rfl
def Il   (h:ascii l=true):enF (.str l) O=.ok (c7 0 (cH l)) O:=by
 show(if ascii l=true then _ else _)=_;rw[if_pos h]
def asF(r:Res D)(g:MG)(ρ:aM):Fl:=match r with
 | .ok d O'=>match g d ρ with
  |some b=>.nx b O'
  |none=>.no
 | .ex x O'=>.ex x O'
 | .no=>.no
@[simp] theorem yD    :jG m g ρ O=asF (m ρ O) g ρ:=rfl
def yE     (h:g d ρ=some ρ'):asF (.ok d O) g ρ=.nx ρ' O:=by
 unfold asF;dsimp ;rw[h]
@[simp] theorem Im   :dM 2 (bM (mgN i) (bM (mgN j) d8)) (.tup [a,b]) ρ=some ((ρ.set i (some a)).set j (some b)):=rfl
def stF(a b:D)(O:au):Res D:=match a,b with
 | .str l,.str n=>.ok (.bl (decide (l.take n.length=n))) O
 | _,_=>.no
@[simp] theorem QBT   :tV a b ρ O=(a ρ O).bind λx O1=>(b ρ O1).bind λy c=>stF x y c:=rfl
@[simp] theorem QD0  :stF (.str l) (.str n) O=.ok (.bl (decide (l.take n.length=n))) O:=rfl
theorem Io   (c:Nat->aM->au->Prop):∀(n:Nat) (k:Nat) (ρ:aM) (O:au),k<n->c k ρ O ->
  (∀k ρ O,c (k+1) ρ O->t ρ O=.ok true O/\∃j ρ2 d,j<=k/\b ρ O=.nx ρ2 d/\c j ρ2 d)->(∀ρ O,c 0 ρ O->t ρ O=.ok false O)->∃ρ' f,dh t b n ρ O=.nx ρ' f/\c 0 ρ' f
 | 0,k,ρ,O,hk,_,_,_=>absurd hk (Nat.not_lt_zero _)
 |n+1,0,ρ,O,_,h,_,h0=>by
  refine⟨ρ,O,?_,h⟩;unfold dh;rw[h0 ρ O h]
 |n+1,k+1,ρ,O,hk,h,hs,h0=>by
  obtain⟨u,j,ρ2,d,x,q,h2⟩:=hs k ρ O h;obtain⟨ρ',f,m,h3⟩:=Io c n j ρ2 d (by omega) h2 hs h0;refine⟨ρ',f,?_,h3⟩;unfold dh;rw[u];dsimp only;rw[q];exact m
theorem iU{α:Type}{g:MG}{t:M Bool}{m:M D}(c:aM->Prop)(f h:α->D):∀(xs:List α) (ρ:aM) (O:au) (b:List D),c ρ->(∀x∈xs,∀ρ,c ρ->∃ρ1,g (f x) ρ=some ρ1/\c ρ1/\t ρ1 O=.ok true O/\m ρ1 O=.ok (h x) O)->cj g t m (xs.map f) ρ O b=.ok (b++xs.map h) O
 | [],ρ,O,b,_,_=>by simp
 |x::xs,ρ,O,b,hp,hs=>by
  obtain⟨ρ1,u,h1,q,j⟩:=hs x ze ρ hp;rw[zg];unfold cj;rw[u]
  dsimp
  rw[q]
  dsimp
  rw[j]
  dsimp
  rw[iU c f h xs _ O _ h1 λy d=>hs y (zp _ d)];simp
def jP:List Nat:=[101,110,100]
def mz:List Nat:=[97,110,101,119]
def jQ:List Nat:=[112,108,97,105,110]
def bG:List Nat:=[115,105,103,110]
def fD:List Nat:=[105,110,107]
def fX:List Nat:=[103,114,111,117,110,100]
def item(p:Int)(k v:List Nat):D:=.tup [.int p,.str k,.str v]
def col(c:Nat):Bool:=decide (c∈[97,98,99,100,101,102,103,104,46])
def oE  (h:col c=true):c≠91/\c≠93/\c≠47/\c≠10/\c≠9:=by
 have :=jj h
 have q:∀c∈[97,98,99,100,101,102,103,104,46],c≠91/\c≠93/\c≠47/\c≠10/\c≠9:=by decide
 exact q c this
def fY(x:Nat):List Nat->List Nat×List Nat×Nat
 | []=>(bG,[91],0)
 |e::_=>if e=93 then(fX,[x],3) else(bG,[91],0)
def eY:List Nat->List Nat×List Nat×Nat
 | []=>(bG,[91],0)
 |x::t=>if col x=true then fY x t else(bG,[91],0)
def ig(x:Nat):List Nat->List Nat×List Nat×Nat
 | []=>(bG,[91],0)
 |e::_=>if e=93 then(fD,[x],2) else(bG,[91],0)
def cB:List Nat->List Nat×List Nat×Nat
 | []=>(bG,[91],0)
 |d::t=>if d=93 then(jQ,[],1) else if d=91 then(bG,[91],1) else if col d=true then ig d t else if d=47 then eY t else(bG,[91],0)
def one(c:Nat)(t:List Nat):List Nat×List Nat×Nat :=
 if c=10 then(jP,[],0) else if c=9 then(mz,[],0) else if c=91 then cB t else(bG,[c],0)
def items(p:Int):List Nat->List D
 | []=>[]
 |c::t=>item p (one c t).1 (one c t).2.1::items (p+((one c t).2.2+1:Nat)) (t.drop (one c t).2.2)
termination_by l=>l.length
decreasing_by
 simp only[List.length_drop,zz];omega
def lE(p:Int):items p []=[]:=by rw[items]
def qH(p:Int)(c:Nat)(t:List Nat):items p (c::t)=item p (one c t).1 (one c t).2.1::items (p+((one c t).2.2+1:Nat)) (t.drop (one c t).2.2):=by rw[items]
def own(p:Int)(c:Nat):D:=if c=10 then item p jP [] else if c=9 then item p mz [] else item p bG [c]
def owns:Int->List Nat->List D
 | _,[]=>[]
 |p,c::l=>own p c::owns (p+1) l
def dU    (h:c≠91):items p (c::t)=own p c::items (p+1) t:=by
 rw[qH];unfold one own
 by_cases h1:c=10
 ·simp[h1]
 ·by_cases h2:c=9
  ·simp[h2]
  ·simp[h1,h2,h]
def il   (h:cB t=(bG,[91],0)):items p (91::t)=own p 91::items (p+1) t:=by
 rw[qH]
 have:one 91 t=(bG,[91],0):=h
 rw[this];rfl
def uL     (h:cB t=(k,v,n)):items p (91::t)=item p k v::items (p+(n+1:Nat)) (t.drop n):=by
 rw[qH]
 have:one 91 t=(k,v,n):=h
 rw[this]
def bf:List Nat->Bool
 | [a]=>decide (a=91)
 | [a,b]=>decide (a=91)&&(decide (b=47) || col b)
 | [a,b,c]=>decide (a=91)&&(decide (b=47)&&col c)
 | _=>false
def markB:List Nat->Option (List Nat×List Nat)
 | [a,b]=>if a=91/\b=93 then some (jQ,[]) else if a=91/\b=91 then some (bG,[91]) else none
 | [a,b,c]=>if a=91/\col b=true/\c=93 then some (fD,[b]) else none
 | [a,b,c,d]=>if a=91/\b=47/\col c=true/\d=93 then some (fX,[c]) else none
 | _=>none
def tk(h:List Nat)(c:Nat)(p:Int):List D×List Nat :=
 if bf (h++[c])=true then([],h++[c]) else match markB (h++[c]) with
 |some (k,v)=>([item p k v],[])
 |none=>if c=91 then(owns p h,[91]) else(owns p (h++[c]),[])
inductive bK:List Nat->Prop where
 | h0:bK []
 | h1:bK [91]
 | h2:bK [91,47]
 | h3 (x:Nat) (h:col x=true):bK [91,x]
 | h4 (x:Nat) (h:col x=true):bK [91,47,x]
def bK.len  (H:bK h):h.length<=3:=by cases H<;>simp
def qI:col 91=false:=by decide
def yF:col 93=false:=by decide
theorem fG:col 47=false:=by decide
def Ip  (H:bK h)(c:Nat)(p:Int)(rest:List Nat):
  bK (tk h c p).2/\items p (h++c::rest)=(tk h c p).1++items (p+h.length+1 - (tk h c p).2.length) ((tk h c p).2++rest):=by
 cases H with
 |h0 =>
  by_cases h1:c=91
  ·subst h1;refine⟨bK.h1,?_⟩;simp[tk,bf]
  ·have:tk [] c p=([own p c],[]):=by simp[tk,bf,markB,h1,owns]
   rw[this];refine⟨bK.h0,?_⟩;simp[dU h1]
 |h1 =>
  by_cases h2:c=93
  ·subst h2
   have:tk [91] 93 p=([item p jQ []],[]):=by simp[tk,bf,markB,yF]
   rw[this];refine⟨bK.h0,?_⟩;show items p (91::93::rest)=_;rw[uL (k:=jQ) (v:=[]) (n:=1) rfl];simp[Int.add_assoc]
  ·by_cases h1:c=91
   ·subst h1
    have:tk [91] 91 p=([item p bG [91]],[]):=by simp[tk,bf,markB,qI]
    rw[this];refine⟨bK.h0,?_⟩;show items p (91::91::rest)=_;rw[uL (k:=bG) (v:=[91]) (n:=1) rfl];simp[Int.add_assoc]
   ·by_cases h3:c=47
    ·subst h3
     have:tk [91] 47 p=([],[91,47]):=by simp[tk,bf]
     rw[this];exact⟨bK.h2,by simp;congr 1;omega⟩
    ·by_cases h4:col c=true
     ·have:tk [91] c p=([],[91,c]):=by simp[tk,bf,h4]
      rw[this];exact⟨bK.h3 c h4,by simp;congr 1;omega⟩
     ·have:tk [91] c p=([own p 91,own (p+1) c],[]):=by simp[tk,bf,markB,h1,h2,h3,h4,owns]
      rw[this];refine⟨bK.h0,?_⟩;show items p (91::c::rest)=_;rw[il (by simp[cB,h1,h2,h3,h4]),dU h1];simp
 |h2 =>
  by_cases h4:col c=true
  ·have:tk [91,47] c p=([],[91,47,c]):=by simp[tk,bf,h4]
   rw[this];exact⟨bK.h4 c h4,by simp;congr 1;omega⟩
  ·by_cases h1:c=91
   ·subst h1
    have:tk [91,47] 91 p=([own p 91,own (p+1) 47],[91]):=by simp[tk,bf,markB,fG,qI,owns]
    rw[this];refine⟨bK.h1,?_⟩;show items p (91::47::91::rest)=_;rw[il (by simp[cB,eY,fG,qI]),dU (by decide)];simp;congr 1;omega
   ·have:tk [91,47] c p=([own p 91,own (p+1) 47,own (p+1+1) c],[]):=by simp[tk,bf,markB,h1,h4,fG,owns]
    rw[this];refine⟨bK.h0,?_⟩;show items p (91::47::c::rest)=_;rw[il (by simp[cB,eY,fG,h4]),dU (by decide),dU h1];simp;congr 1;omega
 |h3 x hx =>
  obtain⟨b,d,f,m,j⟩:=oE hx
  by_cases h2:c=93
  ·subst h2
   have:tk [91,x] 93 p=([item p fD [x]],[]):=by simp[tk,bf,markB,yF,hx]
   rw[this];refine⟨bK.h0,?_⟩;show items p (91::x::93::rest)=_;rw[uL (k:=fD) (v:=[x]) (n:=2) (by simp[cB,ig,b,d,hx])];simp;congr 1;omega
  ·by_cases h1:c=91
   ·subst h1
    have:tk [91,x] 91 p=([own p 91,own (p+1) x],[91]):=by simp[tk,bf,markB,f,owns]
    rw[this];refine⟨bK.h1,?_⟩;show items p (91::x::91::rest)=_;rw[il (by simp[cB,ig,b,d,hx]),dU b];simp;congr 1;omega
   ·have:tk [91,x] c p=([own p 91,own (p+1) x,own (p+1+1) c],[]):=by simp[tk,bf,markB,h1,h2,f,owns]
    rw[this];refine⟨bK.h0,?_⟩;show items p (91::x::c::rest)=_;rw[il (by simp[cB,ig,b,d,hx,h2]),dU b,dU h1];simp;congr 1;omega
 |h4 x hx =>
  obtain⟨b,d,f,m,j⟩:=oE hx
  by_cases h2:c=93
  ·subst h2
   have:tk [91,47,x] 93 p=([item p fX [x]],[]):=by simp[tk,bf,markB,hx]
   rw[this];refine⟨bK.h0,?_⟩;show items p (91::47::x::93::rest)=_;rw[uL (k:=fX) (v:=[x]) (n:=3) (by simp[cB,eY,fY,fG,hx])];simp;congr 1;omega
  ·by_cases h1:c=91
   ·subst h1
    have:tk [91,47,x] 91 p=([own p 91,own (p+1) 47,own (p+1+1) x],[91]):=by simp[tk,bf,markB,owns]
    rw[this];refine⟨bK.h1,?_⟩;show items p (91::47::x::91::rest)=_;rw[il (by simp[cB,eY,fY,fG,hx]),dU (by decide),dU b];simp;congr 1;omega
   ·have:tk [91,47,x] c p=([own p 91,own (p+1) 47,own (p+1+1) x,own (p+1+1+1) c],[]):=by simp[tk,bf,markB,h1,h2,owns]
    rw[this];refine⟨bK.h0,?_⟩;show items p (91::47::x::c::rest)=_;rw[il (by simp[cB,eY,fY,fG,hx,h2]),dU (by decide),dU b,dU h1];simp;congr 1;omega
def QpU  (H:bK h)(p:Int):items p h=owns p h:=by
 cases H with
 |h0=>rw[lE];rfl
 |h1=>rw[il rfl,lE];rfl
 |h2=>rw[il rfl,dU (by decide),lE];rfl
 |h3 x hx =>
  obtain⟨b,c⟩:=oE hx;rw[il (by simp[cB,ig,b,c]),dU b,lE];rfl
 |h4 x hx =>
  obtain⟨b⟩:=oE hx;rw[il (by simp[cB,eY,fY,fG]),dU (by decide),dU b,lE];rfl
def aQ:List Nat->Int->List Nat->List D×List Nat
 |h,_,[]=>([],h)
 |h,p,c::t=>((tk h c (p - h.length)).1++(aQ (tk h c (p - h.length)).2 (p+1) t).1,(aQ (tk h c (p - h.length)).2 (p+1) t).2)
theorem Ir:∀(t:List Nat) {h:List Nat} (_:bK h) (p:Int) (rest:List Nat),bK (aQ h p t).2/\items (p - h.length) (h++(t++rest))=(aQ h p t).1++items (p+t.length - (aQ h p t).2.length) ((aQ h p t).2++rest)
 | [],h,H,p,rest=>⟨H,by simp[aQ]⟩
 |c::t,h,H,p,rest=>by
  obtain⟨a,b⟩:=Ip H c _ _;obtain⟨a2,f⟩:=Ir t a _ _;refine⟨a2,?_⟩;show items _ (h++c::(t++rest))=_;rw[b]
  have e:p - h.length+h.length+1 - (tk h c (p - h.length)).2.length=p+1 - (tk h c (p - h.length)).2.length:=by omega
  rw[e,f];show _=(tk h c _).1++(aQ _ _ t).1++items (p+(c::t).length - (aQ _ _ t).2.length) ((aQ _ _ t).2++rest);rw[zH]
  have d:p+1+t.length=p+(c::t).length:=by simp;omega
  rw[d]
def Qxc(t:List Nat):bK (aQ [] 0 t).2/\items 0 t=(aQ [] 0 t).1++owns (t.length - (aQ [] 0 t).2.length) (aQ [] 0 t).2:=by
 obtain⟨a,b⟩:=Ir t bK.h0 0 [];refine⟨a,?_⟩;simp at b;rw[b,QpU a]
@[simp] theorem QwL :kY [.lst l]=some (.lst l):=rfl
def fzF(f:Fl):Fl:=match f with
 | .rt d O'=>.rt d O'
 | _=>.no
@[simp] theorem QEf   :jK m ρ O=fzF (m ρ O):=rfl
@[simp] theorem QDB  :fzF (.rt d O)=.rt d O:=rfl
def ziF(d e:D)(O:au):Res (List D):=match d,e with
 | .lst ds,.lst es=>.ok (tY ds es) O
 | _,_=>.no
@[simp] theorem QD5   :GJ ma mb ρ O=(ma ρ O).bind λd O1=>(mb ρ O1).bind λe b=>ziF d e b:=by
 unfold GJ;congr 1
@[simp] theorem QD8  :ziF (.lst ds) (.lst es) O=.ok (tY ds es) O:=rfl
end L2
namespace L2
open PySem
def fH(h:a ρ O=.nx ρ' c):aq a b ρ O=b ρ' c:=by rw[cM,h,gH]
def cU(h:m ρ O=.rt d b):msN m ρ O=.rt d b:=by unfold msN;rw[h]
end L2
namespace K53
open PySem L2
seal VE SE OE WE TsE TwE AE VS VSs VG VGs VI VIc VO VIf DPE
noncomputable def top(i:Nat):Stmt:=PySem.Challenge.pw_outweave_k53_rows_in_time.main.body.getD i (.Pass ⟨0,0,0,0⟩)
abbrev QsF:=top 15
abbrev Iu:=top 16
abbrev Qom:=top 17
abbrev QrG:=top 18
abbrev Qsx:=top 20
abbrev QiT:=top 21
abbrev QqE:=top 22
abbrev Iv:=top 23
abbrev QiR:=inClass (top 24) 0
abbrev Ql6:=inClass (top 24) 4
abbrev Ql4:=inClass (top 24) 1
abbrev QhR:=inClass (top 24) 2
abbrev Qj7:=inClass (top 24) 3
abbrev Qsp:=top 25
abbrev Ql8:=top 28
abbrev Qqw:=top 30
abbrev Qoh:=top 31
abbrev Qi0:=inClass (top 34) 5
abbrev QjG:=inClass (top 34) 0
abbrev Qmx:=inClass (top 34) 8
abbrev QhC:=inClass (top 34) 6
abbrev Qif:=inClass (top 34) 7
abbrev Qoe:=inClass (top 34) 1
abbrev Qhc:=inClass (top 34) 2
abbrev QjR:=inClass (top 34) 3
abbrev Qli:=inClass (top 34) 4
abbrev QkI:=inClass (top 36) 0
abbrev Qhl:=inClass (top 36) 5
abbrev Qld:=inClass (top 36) 6
abbrev Qou:=inClass (top 36) 1
abbrev Qm1:=inClass (top 36) 2
abbrev QjA:=inClass (top 36) 3
abbrev QhF:=inClass (top 36) 4
abbrev QqT:=top 37
abbrev Qn9:=top 39
abbrev Iw:=top 40
abbrev Qok:=top 43
abbrev uM:=top 44
abbrev Qkp:=inClass (top 53) 2
abbrev Iz:=inClass (top 53) 3
abbrev QpR:=top 51
abbrev Qky:=top 52
abbrev QhV:=inClass (top 53) 4
abbrev Qk4:=inClass (top 53) 5
abbrev Qme:=top 45
abbrev Qti:=top 46
abbrev IK:=top 47
abbrev QhL:=inClass (top 53) 1
abbrev QsX:=top 48
abbrev IV:=top 50
abbrev QjF:=inClass (top 53) 0
abbrev QmR:=top 54
abbrev Qto:=top 55
abbrev Qmd:=top 58
abbrev Qlj:=top 59
abbrev IW:=top 60
abbrev Ja:=inClass (top 61) 0
abbrev Qj0:=inClass (top 61) 5
abbrev Qog:=inClass (top 61) 1
abbrev QmN:=inClass (top 61) 2
abbrev QjI:=inClass (top 61) 3
abbrev Qln:=inClass (top 61) 4
abbrev QqF:=top 63
abbrev Qq6:=top 64
abbrev Qow:=top 65
abbrev Qoi:=top 66
abbrev Qqv:=top 67
abbrev Qod:=top 68
abbrev Ql9:=top 69
abbrev Qpy:=top 70
abbrev Qoq:=top 71
abbrev Qop:=top 72
abbrev Jb:=top 73
abbrev qJ:=top 75
abbrev QqD:=top 77
abbrev Qon:=top 78
abbrev Qjm:=top 79
abbrev Jc:=top 80
abbrev jR:=top 81
structure Fc(Pr:Program)(w:World)(K:Frag)(mg:Str->Option Value)(base:Heap):Prop where
 f0:Def K mg "is_sign" QsF
 B:Zm mg
 NK:lr K=true
 f3:∃u,mg "FIRST_SIGN" = some u/\RelV (.str (S [32])) u
 f4:∃u,mg "LAST_SIGN" = some u/\RelV (.str (S [125])) u
 f5:Def K mg "is_name" Iu
 f6:∃u,mg "LONGEST_NAME" = some u/\RelV (.int 8) u
 f7:Def K mg "is_colour" Qom
 f8:∃u,mg "COLOURS" = some u/\RelV (.str (S [97,98,99,100,101,102,103,104,46])) u
 f9:Def K mg "checked" QrG
 f10:∃u,mg "ANEW_SIGN" = some u/\RelV (.str (S [9])) u
 f11:∃u,mg "ROW_END" = some u/\RelV (.str (S [10])) u
 f12:Def K mg "mark_of" Qsx
 f13:Def K mg "may_become_mark" QiT
 f14:Def K mg "own_item" QqE
 f15:Def K mg "own_items" Iv
 f16:nO K mg "Reader" "Reader.__init__" QiR
 f17:KC K mg "Reader" "held"
 f18:KC K mg "Reader" "place"
 f19:b8 K mg "Reader" "take" "Reader.take" Ql6
 f20:b8 K mg "Reader" "feed" "Reader.feed" Ql4
 f21:b8 K mg "Reader" "held_text" "Reader.held_text" QhR
 f22:b8 K mg "Reader" "finish" "Reader.finish" Qj7
 f23:Def K mg "written" Qsp
 f24:Def K mg "pair_behind" Ql8
 f25:tZ K mg "PLAIN" [[46],[46]]
 f26:Def K mg "is_whole" Qqw
 f27:Def K mg "is_within" Qoh
 f28:b8 K mg "Maker" "begin_row" "Maker.begin_row" Qi0
 f29:KC K mg "Maker" "letters"
 f30:KC K mg "Maker" "pair"
 f31:KC K mg "Maker" "stale"
 f32:nO K mg "Maker" "Maker.__init__" QjG
 f33:∃u,mg "GREATEST_MOST" = some u/\RelV (.int 200) u
 f34:KC K mg "Maker" "most"
 f35:KC K mg "Maker" "last_word"
 f36:b8 K mg "Maker" "tell" "Maker.tell" Qmx
 f37:b8 K mg "Maker" "empty_stale" "Maker.empty_stale" QhC
 f38:b8 K mg "Maker" "add_letter" "Maker.add_letter" Qif
 f39:b8 K mg "Maker" "put" "Maker.put" Qoe
 f40:b8 K mg "Maker" "open_letters" "Maker.open_letters" Qhc
 f41:b8 K mg "Maker" "going_on" "Maker.going_on" QjR
 f42:b8 K mg "Maker" "finish" "Maker.finish" Qli
 f43:nO K mg "Hand" "Hand.__init__" QkI
 f44:KC K mg "Hand" "name"
 f45:KC K mg "Hand" "reader"
 f46:KC K mg "Hand" "maker"
 f47:KC K mg "Hand" "closed"
 f48:b8 K mg "Hand" "refuse_closed" "Hand.refuse_closed" Qhl
 f49:b8 K mg "Hand" "put_all" "Hand.put_all" Qld
 f50:b8 K mg "Hand" "feed" "Hand.feed" Qou
 f51:b8 K mg "Hand" "close" "Hand.close" Qm1
 f52:b8 K mg "Hand" "held_text" "Hand.held_text" QjA
 f53:b8 K mg "Hand" "open_letters" "Hand.open_letters" QhF
 f54:Def K mg "of_name" QqT
 f55:Def K mg "shown_ink" Qn9
 f56:Def K mg "look" Iw
 f57:Def K mg "cost_over" Qok
 f58:Def K mg "least_cost" uM
 f59:b8 K mg "Leaps" "last_at" "Leaps.last_at" Qkp
 f60:KC K mg "Leaps" "look"
 f61:b8 K mg "Leaps" "nodes_at" "Leaps.nodes_at" Iz
 f62:KC K mg "Leaps" "inks"
 f63:Def K mg "marks_to" QpR
 f64:Def K mg "marks_between" Qky
 f65:b8 K mg "Leaps" "moves_from" "Leaps.moves_from" QhV
 f66:b8 K mg "Leaps" "is_end" "Leaps.is_end" Qk4
 f67:Def K mg "price_nodes" Qme
 f68:Def K mg "priced" Qti
 f69:Def K mg "first_cheapest" IK
 f70:b8 K mg "Leaps" "first_node" "Leaps.first_node" QhL
 f71:Def K mg "way_of" QsX
 f72:Def K mg "colours_of" IV
 f73:nO K mg "Leaps" "Leaps.__init__" QjF
 f74:Def K mg "shaded_way" QmR
 f75:Def K mg "shaded" Qto
 f76:Def K mg "check_names" Qmd
 f77:∃u,mg "MOST_HANDS" = some u/\RelV (.int 6) u
 f78:Def K mg "number_ahead" Qlj
 f79:Def K mg "head_of" IW
 f80:yg K mg "Roll" "Roll.__init__" Ja #[(.bool false)]
 f81:KC K mg "Roll" "names"
 f82:KC K mg "Roll" "numbered"
 f83:KC K mg "Roll" "rows"
 f84:KC K mg "Roll" "hands"
 f85:b8 K mg "Roll" "add_rows" "Roll.add_rows" Qj0
 f86:b8 K mg "Roll" "feed" "Roll.feed" Qog
 f87:b8 K mg "Roll" "close" "Roll.close" QmN
 f88:b8 K mg "Roll" "told_rows" "Roll.told_rows" QjI
 f89:b8 K mg "Roll" "held_of" "Roll.held_of" Qln
 f90:Def K mg "_law_cell" QqF
 f91:Def K mg "_law_mix" Qq6
 f92:Def K mg "_law_signs" Qow
 f93:Def K mg "_law_token" Qoi
 f94:Def K mg "_law_item" Qqv
 f95:Def K mg "_law_items" Qod
 f96:Def K mg "_law_is_held" Ql9
 f97:Def K mg "_law_sure" Qpy
 f98:Def K mg "_law_parts" Qoq
 f99:Def K mg "_law_whole" Qop
 f100:Def K mg "_law_letters_right" Jb
 f101:Def K mg "_law_names" qJ
 f102:Def K mg "_law_told" QqD
 f103:Def K mg "_law_piece" Qon
 f104:Def K mg "_law_held_right" Qjm
 f105:Def K mg "_law_signs_of" Jc
 f106:Def K mg "law" jR
local macro_rules | `(tactic| trivial) => `(tactic| exact ⟨rfl, rfl, rfl, by decide +kernel, rfl, by decide +kernel, by decide +kernel⟩)
set_option hygiene false
local macro_rules | `(tactic| left) => `(tactic| first|exact kE|exact iD|exact Hs|exact QCr|(intro _ _ _ _ _ _;repeat first|exact xJ rfl|refine kZ fun _ => ?_)|exact zn|exact .inl rfl|exact .inr rfl|exact Xx|(show (bH _ _ _).Nodup;decide +kernel)|(refine Xy ‹_› ?_;left))
local macro_rules | `(tactic| symm) => `(tactic| repeat' first|(show VE _ _ _ _ _;first|(show VE _ _ _ (.Name _ _) _;first|exact Us _|exact Ff ‹_› (fun _ _ _ => Rp.str)|exact QuE (by assumption)|exact Ff ‹_› (fun _ _ _ => Rp.int))|(show VE _ _ _ (.Constant _ _ _) _;first|exact Uv|exact Uy _|exact Uw|exact Ux)|(show VE _ _ _ (.Subscript _ _ _) _;first|refine Wi ?_ ?_|refine Yy zr ?_ ?_|refine Z7 NK zr ?_ ?_)|(show VE _ _ _ (.Call _ _ _ _) _;first|refine XJ ‹_› (zr.mono (by decide)) ?_|refine XS ‹_› (zr.mono (by decide)) ?_|refine XQ ‹_› (zr.mono (by decide)) ?_ ?_|refine Xo ‹_› (zr.mono (by decide)) ?_|exact Xp ‹_› (zr.mono (by decide))|exact XN ‹_› (zr.mono (by decide))|refine Quo ‹_› (zr.mono (by decide)) ?_|refine Qt6 (ms:=[.s]) rfl B.dict_ ?_)|(show VE _ _ _ (.Tuple _ _ _) _;refine QwP ?_)|(show VE _ _ _ (.Attribute _ _ _) _;refine Xk (by left) ?_)|(show VE _ _ _ (.BoolOp _ _ _) _;first|refine Vf ?_ ?_|refine Ve ?_)|(show VE _ _ _ (.IfExp _ _ _ _) _;refine Vi ?_ ?_ ?_)|(show VE _ _ _ (.UnaryOp _ _ _) _;refine Vg ?_)|(show VE _ _ _ (.Dict _ _ _) _;first|exact Z5|exact Yw)|refine X4 ?_|refine wZ ?_|refine Uu ?_)|(show SE _ _ _ _ _;first|(show SE _ _ _ (.Name _ _) _;exact Ur _)|refine Ut ?_)|(show AE _ _ _ _ _ _;first|exact Fg|refine Fj ?_ ?_|refine Uz ?_ ?_)|(show VSs _ _ _ _ _ _;first|refine Vk ?_ ?_|refine Vl ?_|exact Vj)|(show VS _ _ _ _ _ _;first|refine Vo ?_|refine Vr ?_ ?_ ?_|refine Vs (by left) rfl (by left) ?_|refine Xl (by left) ?_ ?_|refine Vt (by left) rfl (by left) ?_|refine FJ rfl ?_ ?_ ?_|exact Vq _|exact Vm|refine Vn ?_|refine Xf _ ?_|refine X5 ?_ ?_|refine Xi _ ?_|refine Z6 NK zr ?_ ?_ ?_|refine Vy ?_ ?_|refine FN _ ?_ ?_|refine Yx zr ?_ ?_ ?_|refine FN wF ?_ ?_|refine Xj _ ?_ ?_|refine Z9 _ ?_|refine Zn ?_ ?_|refine X7 rfl ?_ ?_ ?_|exact YC _|refine Vp ?_)|(show OE _ _ _ _ _;first|(show OE _ _ _ (.BinOp _ .Add _ _) _;refine nu V0 ?_ ?_)|(show OE _ _ _ (.Call _ _ _ _) _;first|refine tL (ms:=[.s]) (hv:=Wu) Wn B.len_ ?_|refine XR ‹_› (zr.mono (by decide)) ?_ ?_|refine XM ‹_› (zr.mono (by decide)) ?_|refine pX "str" (hb:=Gk) B.isinstance_ B.str_ ?_|refine XX ‹_› (zr.mono (by decide)) ?_|refine Gi (ms:=[.s]) (hv:=Gm) Wr B.list_ ?_|refine Xd ?_ ?_|refine pX "int" (hb:=Wz) B.isinstance_ B.int_ ?_|refine pX "bool" (hb:=WD) B.isinstance_ B.bool_ ?_|refine Xb ?_|refine pX "list" (hb:=Gm) B.isinstance_ B.list_ ?_|refine pX "tuple" (hb:=WK) B.isinstance_ B.tuple_ ?_|refine tL (ms:=[.s]) (hv:=Ww) (Ws rfl) B.all_ ?_|refine Ym rfl B.min_ ?_|refine Zk (ms:=[.s]) rfl B.sorted_ B.set_ ?_|refine Gi (ms:=[.s]) (hv:=Gk) Yg B.str_ ?_|refine tL (ms:=[.s]) (hv:=Wv) (YF rfl) B.max_ ?_|refine Qtm ?_ ?_|refine tL (ms:=[.s]) (hv:=Wx) (Wt rfl) B.sum_ ?_)|(show OE _ _ _ (.List _ _) _;refine QvY ?_)|(show OE _ _ _ (.BinOp _ .Mod _ _) _;refine nu V3 ?_ ?_)|(show OE _ _ _ (.Subscript _ _ _) _;refine Wm ?_ ?_ ?_)|(show OE _ _ _ (.Compare _ [.Eq] _ _) _;refine Fo (Gf zr) ?_ ?_ (m5 _))|(show OE _ _ _ (.BinOp _ .Sub _ _) _;refine nu V1 ?_ ?_)|(show OE _ _ _ (.Compare _ _ _ _) _;refine UL tK tK ?_ ?_ ?_)|(show OE _ _ _ (.Compare _ [.In] _ _) _;refine Fo Gg ?_ ?_ (by with_unfolding_all rfl))|(show OE _ _ _ (.UnaryOp _ _ _) _;refine V6 ?_)|(show OE _ _ _ (.BinOp _ .Pow _ _) _;refine nu V5 ?_ ?_)|(show OE _ _ _ (.BinOp _ .FloorDiv _ _) _;refine nu V4 ?_ ?_)|(show OE _ _ _ (.BinOp _ .Mult _ _) _;refine nu V2 ?_ ?_))|(show TsE _ _ _ _ _;first|(show TsE _ _ _ (.Compare _ [.Eq] _ _) _;refine pU (Gf zr) ?_ ?_ (m5 _))|(show TsE _ _ _ (.UnaryOp _ _ _) _;refine Vc ?_)|(show TsE _ _ _ (.Compare _ [.NotEq] _ _) _;refine pU (Wb zr) ?_ ?_ (m5 _))|(show TsE _ _ _ (.Compare _ [.Lt] _ _) _;refine pU V7 ?_ ?_ (m5 _))|(show TsE _ _ _ (.Compare _ [.Gt] _ _) _;refine pU V8 ?_ ?_ (m5 _))|(show TsE _ _ _ (.Compare _ _ _ _) _;first|refine U3 ?_|refine U0 ?_|refine YB zr ?_ ?_|refine UT tK tK ?_ ?_ ?_|refine Yc _ zr ?_ ?_)|(show TsE _ _ _ (.Compare _ [.In] _ _) _;refine pU Gg ?_ ?_ (by with_unfolding_all rfl))|refine U4 ?_|refine Vb ?_)|(show TwE _ _ _ _ _;(show TwE _ _ _ (.BoolOp _ _ _) _;first|refine U9 ?_ ?_|refine Va ?_ ?_|refine U8 ?_|refine U7 ?_))|(show VG _ _ _ _ _;first|(show VG _ _ _ (.Name _ _) _;exact Vu (by left) rfl (by left))|(show VG _ _ _ (.Tuple _ _ _) _;refine Vx _ rfl ?_))|(show VO _ _ _ _ _;first|refine Wk ?_|exact Wj)|(show VGs _ _ _ _ _;first|refine Vw ?_ ?_|exact Vv)|(show VI _ _ _ _ _ _;first|refine Xq ?_|refine W8 B.range_ ?_|refine Xv B.enumerate_ ?_|refine Z8 ?_|refine Yr B.range_ ?_)|(show VIf _ _ _ _ _;first|exact VD|refine VF ?_)|(show VIc _ _ _ _ _ _;first|refine Xu ?_|refine xg ?_)|(show WE _ _ _ _ _;first|(show WE _ _ _ (.Name _ _) _;exact W6 _)|refine W5 ?_))
local macro_rules | `(tactic| exists $d, $n, $l) => `(tactic| (have B:=G.B;have NK:=G.NK;(first|refine VJ $d (N:=$n) (by trivial) (by left) _ $l (by left) (by left) (body:=fun f cdv A outer s H E zr P => ?_)|refine Xm $d (N:=$n) (by trivial) (by left) _ $l (by left) (by left) (body:=fun f cdv A outer s H E zr P => ?_)|refine Xn $d (N:=$n) (by trivial) (by left) _ $l (by left) (by left) (body:=fun f cdv A outer s H E zr P => ?_));have zn:List.Nodup (($n):List Str):=(by decide +kernel);symm))
def Qmc:gj ["moves","prices","costs"] ["moves","prices"] (aZ uM):=by trivial
def Jd:gj ["self","names","most","numbered","name"] ["self","names","most","numbered"] (aZ Ja):=by trivial
def Je:gj ["_law_cell_here","_law_many","_law_letters","_law_base","_law_names_here","_law_size","_law_at","_law_first"] ["_law_cell_here","_law_many"] (aZ qJ):=by trivial
section
variable {Pr:Program}{w:World}{K:Frag}{mg:Str->Option Value}{base:Heap}(G:Fc Pr w K mg base)
include G
abbrev ZV(_:Fc Pr w K mg base)(x:Str)(ps:List Str)(k:Nat)(ms:List Md)(c:List D->au->Res D):Prop:=Can Pr w K mg base x ps k (vSp K mg ms (rV K) c)
abbrev ZO(_:Fc Pr w K mg base)(x:Str)(ps:List Str)(k:Nat)(ms:List Md)(c:List D->au->Res D):Prop:=Can Pr w K mg base x ps k (vSp K mg ms (rO K) c)
abbrev ir(_:Fc Pr w K mg base)(x y:Str)(ps:List Str)(k:Nat)(ms:List Md)(c:List D->au->Res D):Prop:=iJ Pr w K mg base x y ps k (vSp K mg ms (rV K) c)
abbrev dW(_:Fc Pr w K mg base)(x y:Str)(ps:List Str)(k:Nat)(ms:List Md)(c:List D->au->Res D):Prop:=iJ Pr w K mg base x y ps k (vSp K mg ms (rO K) c)
abbrev uN(_:Fc Pr w K mg base)(x:Str)(ps:List Str)(k:Nat)(ms:List Md)(c:List D->au->Res D):Prop:=pY Pr w K mg base x ps k (vSp K mg ms (rV K) c)
def Jf :=
 (aA (d7 (cZ "str" (aa 0)) (d7 (ak gEq (aK aP (aj (aa 0) ao)) (mC (.int 1))) (fQ gLe gLe (mC (.str [32])) (aa 0) (mC (.str [125]))))))
def oF:=aL 1 Jf
def Qqb:ZV G "is_sign" ["thing"] 1 [.s] oF:=by
 have:=G.f3
 have:=G.f4
 exists G.f0,["thing"],[]
def yG :=
 (aq (aD (bY (bj (cZ "str" (aa 0)))) (aA (mC (.bl false))) aG)
  (aA (d7 (fQ gLe gLe (mC (.int 1)) (aK aP (aj (aa 0) ao)) (mC (.int 8))) (aK tO (aj (b7 (bF (aa 0)) 1 [] (mgN 0) bN (fQ gLe gLe (mC (.str [97])) (aa 0) (mC (.str [122])))) ao)))))
def uO:=aL 1 yG
def Qpw:ZV G "is_name" ["thing"] 1 [.s] uO:=by
 have:=G.f6
 exists G.f5,["thing"],[]
 refine gn (aZ Iu) ["thing"] ["letter"] [] rfl ?_ (λ_ _ _ _ P=>?_) (λ_ _ _ _ P=>?_) (λ_ _ _ _ P=>?_)
 symm
def Jg :=
 (aA (d7 (cZ "str" (aa 0)) (d7 (ak gEq (aK aP (aj (aa 0) ao)) (mC (.int 1))) (ak (gIn false) (aa 0) (mC (.str [97,98,99,100,101,102,103,104,46]))))))
def mD:=aL 1 Jg
def Jh:ZV G "is_colour" ["thing"] 1 [.s] mD:=by
 have:=G.f8
 exists G.f7,["thing"],[]
def Ji :=
 (aq (aD (bY (bj (cZ "str" (aa 0)))) gM aG)
  (cA (pZ (aa 0)) (dM 2 (bM (mgN 1) (bM (mgN 2) d8))) (aD (bY (bL (bj (aC oF (aj (aa 2) ao))) (bL (az (ak gEq (aa 2) (mC (.str [10])))) (az (ak gEq (aa 2) (mC (.str [9]))))))) gM aG)))
def uP:=aL 3 Ji
def QpQ:ZV G "checked" ["text"] 2 [.s] uP:=by
 have:=G.f10
 have:=G.f11
 have:=Qqb G
 exists G.f9,["text","place","sign"],[.v,.v]
def qK :=
 (aq (aD (az (ak gEq (aa 0) (mC (.str [91,93])))) (aA (aU (aj (mC (.str [112,108,97,105,110])) (aj (mC (.str [])) ao)))) aG)
  (aq (aD (az (ak gEq (aa 0) (mC (.str [91,91])))) (aA (aU (aj (mC (.str [115,105,103,110])) (aj (mC (.str [91])) ao)))) aG)
  (aq (aD (bQ (az (ak gEq (aK aP (aj (aa 0) ao)) (mC (.int 3)))) (bQ (az (ak gEq (ak gIx (aa 0) (mC (.int 0))) (mC (.str [91])))) (bQ (bj (aC mD (aj (ak gIx (aa 0) (mC (.int 1))) ao))) (az (ak gEq (ak gIx (aa 0) (mC (.int 2))) (mC (.str [93]))))))) (aA (aU (aj (mC (.str [105,110,107])) (aj (ak gIx (aa 0) (mC (.int 1))) ao)))) aG)
  (aq (aD (bQ (az (ak gEq (aK aP (aj (aa 0) ao)) (mC (.int 4)))) (bQ (bj (tV (mG (aa 0)) (mC (.str [91,47])))) (bQ (bj (aC mD (aj (ak gIx (aa 0) (mC (.int 2))) ao))) (az (ak gEq (ak gIx (aa 0) (mC (.int 3))) (mC (.str [93]))))))) (aA (aU (aj (mC (.str [103,114,111,117,110,100])) (aj (ak gIx (aa 0) (mC (.int 2))) ao)))) aG)
  (aA (mC .non))))))
def mF:=aL 1 qK
def QpY:ZV G "mark_of" ["text"] 2 [.s] mF:=by
 have:=Jh G
 exists G.f12,["text"],[]
def qL :=
 (aq (aD (bL (az (ak gEq (aa 0) (mC (.str [91])))) (az (ak gEq (aa 0) (mC (.str [91,47]))))) (aA (mC (.bl true))) aG)
  (aq (aD (az (ak gEq (aK aP (aj (aa 0) ao)) (mC (.int 2)))) (aA (d7 (ak gEq (ak gIx (aa 0) (mC (.int 0))) (mC (.str [91]))) (aC mD (aj (ak gIx (aa 0) (mC (.int 1))) ao)))) aG)
  (aA (d7 (ak gEq (aK aP (aj (aa 0) ao)) (mC (.int 3))) (d7 (tV (mG (aa 0)) (mC (.str [91,47]))) (aC mD (aj (ak gIx (aa 0) (mC (.int 2))) ao)))))))
def mH:=aL 1 qL
def QhM:ZV G "may_become_mark" ["text"] 2 [.s] mH:=by
 have:=Jh G
 exists G.f13,["text"],[]
def Jj :=
 (aq (aD (az (ak gEq (aa 1) (mC (.str [10])))) (aA (aU (aj (mG (aa 0)) (aj (mC (.str [101,110,100])) (aj (mC (.str [])) ao))))) aG)
  (aq (aD (az (ak gEq (aa 1) (mC (.str [9])))) (aA (aU (aj (mG (aa 0)) (aj (mC (.str [97,110,101,119])) (aj (mC (.str [])) ao))))) aG)
  (aA (aU (aj (mG (aa 0)) (aj (mC (.str [115,105,103,110])) (aj (mG (aa 1)) ao)))))))
def qM:=aL 2 Jj
def Qof:ZV G "own_item" ["place","sign"] 1 [.s,.s] qM:=by
 have:=G.f10
 have:=G.f11
 exists G.f14,["place","sign"],[]
def Jk :=
 (aA (b7 (pZ (aa 1)) 2 [0] (dM 2 (bM (mgN 0) (bM (mgN 1) d8))) bN (aC qM (aj (ak aJ (aa 2) (aa 0)) (aj (aa 1) ao)))))
def oG:=aL 2 Jk
def Jl:ZO G "own_items" ["place","signs"] 2 [.s,.s] oG:=by
 have:=Qof G
 exists G.f15,["place","signs"],[]
 refine gn (aZ Iv) ["place","signs"] ["k","sign"] [0] rfl ?_ (λ_ _ _ _ P=>?_) (λ_ _ _ _ P=>?_) (λ_ _ _ _ P=>?_)
 symm
def Jm :=
 (aq (bI ["Reader"] "held" (aa 0) (mC (.str [])))
  (bI ["Reader"] "place" (aa 0) (mC (.int 0))))
def qN:=aL 1 Jm
def Qil:uN G "Reader" ["self"] 1 [.v] qN:=by
 have:=G.f17
 have:=G.f18
 exists G.f16,["self"],[]
def Jo :=
 (aq (aB 2 (ak aJ (aX ["Reader"] "held" (aa 0)) (aa 1)))
  (aq (aB 3 (ak dO (aX ["Reader"] "place" (aa 0)) (aK aP (aj (aX ["Reader"] "held" (aa 0)) ao))))
  (aq (bI ["Reader"] "place" (aa 0) (ak aJ (aX ["Reader"] "place" (aa 0)) (mC (.int 1))))
  (aq (aD (bj (aC mH (aj (aa 2) ao))) (aq (bI ["Reader"] "held" (aa 0) (aa 2))
  (aA (bh ao))) aG)
  (aq (aB 4 (aC mF (aj (aa 2) ao)))
  (aq (aD (az (iG (aa 4))) (aq (bI ["Reader"] "held" (aa 0) (mC (.str [])))
  (aA (bh (aj (aU (aj (aa 3) (aj (ak gIx (aa 4) (mC (.int 0))) (aj (ak gIx (aa 4) (mC (.int 1))) ao)))) ao)))) aG)
  (aq (aD (az (ak gEq (aa 1) (mC (.str [91])))) (aq (aB 5 (aC oG (aj (aa 3) (aj (aX ["Reader"] "held" (aa 0)) ao))))
  (aq (bI ["Reader"] "held" (aa 0) (mG (aa 1)))
  (aA (aa 5)))) aG)
  (aq (bI ["Reader"] "held" (aa 0) (mC (.str [])))
  (aA (aC oG (aj (aa 3) (aj (aa 2) ao))))))))))))
def iV:=aL 6 Jo
def QkR:dW G "Reader" "take" ["self","sign"] 3 [.v,.s] iV:=by
 have:=G.f18
 have:=G.f17
 have:=QhM G
 have:=QpY G
 have:=Jl G
 exists G.f19,["self","sign","seen","first","mark","told"],[.v,.v,.v,.o]
def Jp :=
 (aq (fC (aC uP (aj (aa 1) ao)))
  (aq (aB 2 (bh ao))
  (aq (cA (bF (aa 1)) (mgN 3) (gD 2 (aN "Reader" "take" iV (aa 0) (aj (aa 3) ao))))
  (aA (aa 2)))))
def uQ:=aL 4 Jp
def Qk3:dW G "Reader" "feed" ["self","piece"] 4 [.v,.s] uQ:=by
 have:=QpQ G
 have:=QkR G
 exists G.f20,["self","piece","told","sign"],[.o,.v]
def Jq :=
 (aA (aX ["Reader"] "held" (aa 0)))
def uR:=aL 1 Jq
def QhB:ir G "Reader" "held_text" ["self"] 1 [.v] uR:=by
 have:=G.f17
 exists G.f21,["self"],[]
def Jr :=
 (aq (aB 1 (aC oG (aj (ak dO (aX ["Reader"] "place" (aa 0)) (aK aP (aj (aX ["Reader"] "held" (aa 0)) ao))) (aj (aX ["Reader"] "held" (aa 0)) ao))))
  (aq (bI ["Reader"] "held" (aa 0) (mC (.str [])))
  (aA (aa 1))))
def uT:=aL 2 Jr
def Qjz:dW G "Reader" "finish" ["self"] 3 [.v] uT:=by
 have:=G.f17
 have:=G.f18
 have:=Jl G
 exists G.f22,["self","told"],[.o]
def Js :=
 (aq (aD (az (ak gEq (aa 0) (mC (.str [115,105,103,110])))) (aA (mIf (az (ak gEq (aa 1) (mC (.str [91])))) (mC (.str [91,91])) (mG (aa 1)))) aG)
  (aq (aD (az (ak gEq (aa 0) (mC (.str [105,110,107])))) (aA (ak aJ (ak aJ (mC (.str [91])) (aa 1)) (mC (.str [93])))) aG)
  (aq (aD (az (ak gEq (aa 0) (mC (.str [103,114,111,117,110,100])))) (aA (ak aJ (ak aJ (mC (.str [91,47])) (aa 1)) (mC (.str [93])))) aG)
  (aq (aD (az (ak gEq (aa 0) (mC (.str [112,108,97,105,110])))) (aA (mC (.str [91,93]))) aG)
  (aA (mIf (az (ak gEq (aa 0) (mC (.str [101,110,100])))) (mC (.str [10])) (mC (.str [9]))))))))
def jT:=aL 2 Js
def yH:ZV G "written" ["kind","value"] 1 [.s,.s] jT:=by
 have:=G.f10
 have:=G.f11
 exists G.f23,["kind","value"],[]
def Qmg :=
 (aq (aD (az (ak gEq (aa 1) (mC (.str [105,110,107])))) (aA (aU (aj (mG (aa 2)) (aj (ak gIx (aa 0) (mC (.int 1))) ao)))) aG)
  (aq (aD (az (ak gEq (aa 1) (mC (.str [103,114,111,117,110,100])))) (aA (aU (aj (ak gIx (aa 0) (mC (.int 0))) (aj (mG (aa 2)) ao)))) aG)
  (aq (aD (az (ak gEq (aa 1) (mC (.str [115,105,103,110])))) (aA (mG (aa 0))) aG)
  (aA (mC (.tup [.str [46],.str [46]]))))))
def uU:=aL 3 Qmg
def QkW:ZV G "pair_behind" ["pair","kind","value"] 1 [.s,.s,.s] uU:=by
 have:=G.f25
 exists G.f24,["pair","kind","value"],[]
def Jt :=
 (aA (d7 (cZ "int" (aa 0)) (tH (cZ "bool" (aa 0)))))
def yI:=aL 1 Jt
def Qov:ZV G "is_whole" ["thing"] 1 [.s] yI:=by
 exists G.f26,["thing"],[]
def Ju :=
 (aA (d7 (aC yI (aj (aa 0) ao)) (fQ gLe gLe (aa 1) (aa 0) (aa 2))))
def uV:=aL 3 Ju
def QmU:ZV G "is_within" ["thing","least","greatest"] 2 [.s,.s,.s] uV:=by
 have:=Qov G
 exists G.f27,["thing","least","greatest"],[]
def uW :=
 (aq (bI ["Maker"] "letters" (aa 0) (mMl (bh ao)))
  (aq (bI ["Maker"] "pair" (aa 0) (mC (.tup [.str [46],.str [46]])))
  (bI ["Maker"] "stale" (aa 0) (mC (.bl false)))))
def lF:=aL 1 uW
def Jv:ir G "Maker" "begin_row" ["self"] 1 [.v] lF:=by
 have:=G.f25
 have:=G.f29
 have:=G.f30
 have:=G.f31
 exists G.f28,["self"],[]
def yJ :=
 (aq (aD (bY (bj (aC uV (aj (aa 1) (aj (mC (.int 1)) (aj (mC (.int 200)) ao)))))) gM aG)
  (aq (bI ["Maker"] "most" (aa 0) (mG (aa 1)))
  (aq (bI ["Maker"] "last_word" (aa 0) (mC (.str [119,104,111,108,101])))
  (fC (aN "Maker" "begin_row" lF (aa 0) ao)))))
def uX:=aL 2 yJ
def QiS:uN G "Maker" ["self","most"] 3 [.v,.s] uX:=by
 have:=G.f33
 have:=G.f34
 have:=G.f35
 have:=QmU G
 have:=Jv G
 exists G.f32,["self","most"],[]
def Jw :=
 (aq (aB 2 (aU (aj (aX ["Maker"] "letters" (aa 0)) (aj (mG (aa 1)) ao))))
  (aq (bI ["Maker"] "letters" (aa 0) (mMl (bh ao)))
  (aq (bI ["Maker"] "last_word" (aa 0) (mG (aa 1)))
  (aA (bh (aj (aa 2) ao))))))
def oH:=aL 3 Jw
def yK:dW G "Maker" "tell" ["self","word"] 1 [.v,.s] oH:=by
 have:=G.f29
 have:=G.f35
 exists G.f36,["self","word","part"],[.v]
def yL :=
 (aD (bj (aX ["Maker"] "stale" (aa 0))) (aq (bI ["Maker"] "letters" (aa 0) (mMl (bh ao)))
  (bI ["Maker"] "stale" (aa 0) (mC (.bl false)))) aG)
def mJ:=aL 1 yL
def Qhd:ir G "Maker" "empty_stale" ["self"] 1 [.v] mJ:=by
 have:=G.f31
 have:=G.f29
 exists G.f37,["self"],[]
def yM :=
 (aq (aB 2 (bh ao))
  (aq (aD (az (ak gEq (aK aP (aj (aX ["Maker"] "letters" (aa 0)) ao)) (aX ["Maker"] "most" (aa 0)))) (aB 2 (aN "Maker" "tell" oH (aa 0) (aj (mC (.str [109,111,114,101])) ao))) aG)
  (aq (gG (aX ["Maker"] "letters" (aa 0)) (aU (aj (ak gIx (aa 1) (mC (.int 2))) (aj (ak gIx (aX ["Maker"] "pair" (aa 0)) (mC (.int 0))) (aj (ak gIx (aX ["Maker"] "pair" (aa 0)) (mC (.int 1))) (aj (ak gIx (aa 1) (mC (.int 0))) ao))))))
  (aA (aa 2)))))
def uY:=aL 3 yM
def QhE:dW G "Maker" "add_letter" ["self","item"] 2 [.v,.s] uY:=by
 have:=G.f34
 have:=G.f29
 have:=G.f30
 have:=yK G
 exists G.f38,["self","item","told"],[.o]
def Jx :=
 (aq (aB 2 (ak gIx (aa 1) (mC (.int 1))))
  (aq (aB 3 (bh ao))
  (aq (aD (az (ak gEq (aa 2) (mC (.str [101,110,100])))) (aq (aB 3 (aN "Maker" "tell" oH (aa 0) (aj (mC (.str [119,104,111,108,101])) ao)))
  (bI ["Maker"] "stale" (aa 0) (mC (.bl false)))) (aD (az (ak gEq (aa 2) (mC (.str [97,110,101,119])))) (bI ["Maker"] "stale" (aa 0) (mC (.bl true))) (fC (aN "Maker" "empty_stale" mJ (aa 0) ao))))
  (aq (aD (az (ak gEq (aa 2) (mC (.str [115,105,103,110])))) (aB 3 (aN "Maker" "add_letter" uY (aa 0) (aj (aa 1) ao))) aG)
  (aq (bI ["Maker"] "pair" (aa 0) (aC uU (aj (aX ["Maker"] "pair" (aa 0)) (aj (aa 2) (aj (ak gIx (aa 1) (mC (.int 2))) ao)))))
  (aA (aa 3)))))))
def qO:=aL 4 Jx
def Qn0:dW G "Maker" "put" ["self","item"] 3 [.v,.s] qO:=by
 have:=G.f30
 have:=G.f31
 have:=yK G
 have:=Qhd G
 have:=QhE G
 have:=QkW G
 exists G.f39,["self","item","kind","told"],[.v,.o]
def Jy :=
 (aA (aK kY (aj (aX ["Maker"] "letters" (aa 0)) ao)))
def uZ:=aL 1 Jy
def QgI:dW G "Maker" "open_letters" ["self"] 1 [.v] uZ:=by
 have:=G.f29
 exists G.f40,["self"],[]
def Qjr :=
 (aA (ak gEq (aX ["Maker"] "last_word" (aa 0)) (mC (.str [109,111,114,101]))))
def u0:=aL 1 Qjr
def QiW:ir G "Maker" "going_on" ["self"] 1 [.v] u0:=by
 have:=G.f35
 exists G.f41,["self"],[]
def yN :=
 (aq (aB 1 (bh ao))
  (aq (aD (bL (az (ak gGt (aK aP (aj (aX ["Maker"] "letters" (aa 0)) ao)) (mC (.int 0)))) (bj (aN "Maker" "going_on" u0 (aa 0) ao))) (aB 1 (aN "Maker" "tell" oH (aa 0) (aj (mC (.str [119,104,111,108,101])) ao))) aG)
  (aq (fC (aN "Maker" "begin_row" lF (aa 0) ao))
  (aA (aa 1)))))
def yO:=aL 2 yN
def Qj8:ir G "Maker" "finish" ["self"] 2 [.v] yO:=by
 have:=G.f29
 have:=QiW G
 have:=yK G
 have:=Jv G
 exists G.f42,["self","told"],[.v]
def yP :=
 (aq (bI ["Hand"] "name" (aa 0) (mG (aa 1)))
  (aq (bI ["Hand"] "reader" (aa 0) (dD "Reader" qN ao))
  (aq (bI ["Hand"] "maker" (aa 0) (dD "Maker" uX (aj (aa 2) ao)))
  (bI ["Hand"] "closed" (aa 0) (mC (.bl false))))))
def u6:=aL 3 yP
def Qjq:uN G "Hand" ["self","name","most"] 5 [.v,.s,.s] u6:=by
 have:=G.f44
 have:=G.f45
 have:=G.f46
 have:=G.f47
 have:=Qil G
 have:=QiS G
 exists G.f43,["self","name","most"],[]
def Jz :=
 (aD (bj (aX ["Hand"] "closed" (aa 0))) gM aG)
def u9:=aL 1 Jz
def JB:ir G "Hand" "refuse_closed" ["self"] 1 [.v] u9:=by
 have:=G.f47
 have:=G.f44
 exists G.f48,["self"],[]
def QkV :=
 (aq (aB 2 (bh ao))
  (aq (cA (bF (aa 1)) (mgN 3) (gD 2 (aN "Maker" "put" qO (aX ["Hand"] "maker" (aa 0)) (aj (aa 3) ao))))
  (aA (aa 2))))
def vd:=aL 4 QkV
def JC:dW G "Hand" "put_all" ["self","items"] 4 [.v,.s] vd:=by
 have:=G.f46
 have:=Qn0 G
 exists G.f49,["self","items","parts","item"],[.o,.v]
def Qoc :=
 (aq (fC (aN "Hand" "refuse_closed" u9 (aa 0) ao))
  (aA (aN "Hand" "put_all" vd (aa 0) (aj (aN "Reader" "feed" uQ (aX ["Hand"] "reader" (aa 0)) (aj (aa 1) ao)) ao))))
def yQ:=aL 2 Qoc
def Qnf:dW G "Hand" "feed" ["self","piece"] 5 [.v,.s] yQ:=by
 have:=G.f45
 have:=JB G
 have:=JC G
 have:=Qk3 G
 exists G.f50,["self","piece"],[]
def Qni :=
 (aq (fC (aN "Hand" "refuse_closed" u9 (aa 0) ao))
  (aq (aB 1 (aN "Hand" "put_all" vd (aa 0) (aj (aN "Reader" "finish" uT (aX ["Hand"] "reader" (aa 0)) ao) ao)))
  (aq (gD 1 (aN "Maker" "finish" yO (aX ["Hand"] "maker" (aa 0)) ao))
  (aq (bI ["Hand"] "closed" (aa 0) (mC (.bl true)))
  (aA (aa 1))))))
def yR:=aL 2 Qni
def Ql3:dW G "Hand" "close" ["self"] 5 [.v] yR:=by
 have:=G.f47
 have:=G.f45
 have:=G.f46
 have:=JB G
 have:=JC G
 have:=Qjz G
 have:=Qj8 G
 exists G.f51,["self","parts"],[.o]
def Qjy :=
 (aA (aN "Reader" "held_text" uR (aX ["Hand"] "reader" (aa 0)) ao))
def yS:=aL 1 Qjy
def QiX:ir G "Hand" "held_text" ["self"] 2 [.v] yS:=by
 have:=G.f45
 have:=QhB G
 exists G.f52,["self"],[]
def QhG :=
 (aA (aN "Maker" "open_letters" uZ (aX ["Hand"] "maker" (aa 0)) ao))
def yU:=aL 1 QhG
def Qg3:dW G "Hand" "open_letters" ["self"] 2 [.v] yU:=by
 have:=G.f46
 have:=QgI G
 exists G.f53,["self"],[]
def QsC :=
 (aq (aD (bL (bY (bj (cZ "str" (aa 1)))) (az (ud true (mG (aa 1)) (mG (aa 0))))) gM aG)
  (aA (cQ (mG (aa 0)) (mG (aa 1)))))
def oJ:=aL 2 QsC
def yV:ZV G "of_name" ["things","name"] 1 [.s,.s] oJ:=by
 exists G.f54,["things","name"],[]
def JD :=
 (aA (mIf (az (ak gEq (aa 0) (mC (.str [32])))) (mC (.str [46])) (mG (aa 1))))
def yW:=aL 2 JD
def Qn3:ZV G "shown_ink" ["sign","ink"] 1 [.s,.s] yW:=by
 exists G.f55,["sign","ink"],[]
def QzY :=
 (aA (qi (mG (aa 0)) 1 [] (mgN 0) bN (aU (aj (ak gIx (aa 0) (mC (.int 0))) (aj (aC yW (aj (ak gIx (aa 0) (mC (.int 0))) (aj (ak gIx (aa 0) (mC (.int 1))) ao))) (aj (ak gIx (aa 0) (mC (.int 2))) ao))))))
def qP:=aL 1 QzY
def QwM:ZO G "look" ["letters"] 2 [.s] qP:=by
 have:=Qn3 G
 exists G.f56,["letters"],[]
 refine Zq (aZ Iw) ["letters"] ["letter"] [] rfl ?_ (λ_ _ _ _ P=>?_) (λ_ _ _ _ P=>?_) (λ_ _ _ _ P=>?_)
 symm
def yX :=
 (aq (aB 2 (dg (mG (aa 1)) (ak gIx (aa 0) (mC (.int 2)))))
  (aA (mIf (az (jE (aa 2))) (mC .non) (ak aJ (ak gIx (aa 0) (mC (.int 0))) (aa 2)))))
def oK:=aL 3 yX
def JF:ZV G "cost_over" ["move","prices"] 1 [.s,.s] oK:=by
 exists G.f57,["move","prices","beyond"],[.v]
def yZ :=
 (aq (aB 2 (b7 (bF (aa 0)) 1 [1] (mgN 0) bN (aC oK (aj (aa 0) (aj (aa 1) ao)))))
  (aA (aK t7 (aj (b7 (bF (aa 2)) 1 [] (mgN 0) (az (iG (aa 0))) (aa 0)) ao))))
def qQ:=aL 3 yZ
def JG:ZV G "least_cost" ["moves","prices"] 2 [.s,.s] qQ:=by
 have:=JF G
 exists G.f58,["moves","prices","costs"],[.v]
 refine VH (i:=2) (aZ uM) ["moves","prices","costs"] ["move"] [1] Qmc.nd rfl (.inl rfl) rfl ?_ (λ_ _ _ _ P=>?_) (λ_ _ _ _ P=>?_) (λ_ _ _ _ P=>?_)
 symm
 refine gn (aZ uM) ["moves","prices","costs"] ["cost"] [] rfl ?_ (λ_ _ _ _ P=>?_) (λ_ _ _ _ P=>?_) (λ_ _ _ _ P=>?_)
 symm
def Aa :=
 (aA (ak aJ (aK aP (aj (aX ["Leaps"] "look" (aa 0)) ao)) (mC (.int 1))))
def jU:=aL 1 Aa
def vf:ir G "Leaps" "last_at" ["self"] 1 [.v] jU:=by
 have:=G.f60
 exists G.f59,["self"],[]
def Ab :=
 (aq (aD (bL (az (ak gEq (aa 1) (mC (.int 0)))) (az (ak gEq (aa 1) (aN "Leaps" "last_at" jU (aa 0) ao)))) (aA (bh (aj (aU (aj (mG (aa 1)) (aj (mC (.tup [.str [46],.str [46]])) ao))) ao))) aG)
  (aq (aB 2 (ak gIx (aX ["Leaps"] "look" (aa 0)) (ak dO (aa 1) (mC (.int 1)))))
  (aq (aD (az (ak gEq (ak gIx (aa 2) (mC (.int 0))) (mC (.str [32])))) (aA (b7 (bF (aX ["Leaps"] "inks" (aa 0))) 1 [1,2] (mgN 0) bN (aU (aj (mG (aa 1)) (aj (aU (aj (aa 0) (aj (ak gIx (aa 2) (mC (.int 2))) ao))) ao))))) aG)
  (aA (bh (aj (aU (aj (mG (aa 1)) (aj (aU (aj (ak gIx (aa 2) (mC (.int 1))) (aj (ak gIx (aa 2) (mC (.int 2))) ao))) ao))) ao))))))
def mK:=aL 3 Ab
def JH:dW G "Leaps" "nodes_at" ["self","at"] 2 [.v,.s] mK:=by
 have:=G.f25
 have:=G.f60
 have:=G.f62
 have:=vf G
 exists G.f61,["self","at","letter"],[.v]
 refine gn (aZ Iz) ["self","at","letter"] ["ink"] [1,2] rfl ?_ (λ_ _ _ _ P=>?_) (λ_ _ _ _ P=>?_) (λ_ _ _ _ P=>?_)
 symm
def qR :=
 (aq (aB 3 (mIf (az (ak gEq (aa 1) (mC (.str [105,110,107])))) (mC (.int 0)) (mC (.int 1))))
  (aA (mIf (az (ak gEq (ak gIx (aa 0) (aa 3)) (aa 2))) (mC (.str [])) (aC jT (aj (aa 1) (aj (aa 2) ao))))))
def mL:=aL 4 qR
def Qn8:ZV G "marks_to" ["pair","kind","colour"] 2 [.s,.s,.s] mL:=by
 have:=yH G
 exists G.f63,["pair","kind","colour","place"],[.v]
def Ac :=
 (aq (aB 2 (ak aJ (aC mL (aj (aa 0) (aj (mC (.str [105,110,107])) (aj (ak gIx (aa 1) (mC (.int 0))) ao)))) (aC mL (aj (aa 0) (aj (mC (.str [103,114,111,117,110,100])) (aj (ak gIx (aa 1) (mC (.int 1))) ao))))))
  (aq (aB 3 (ak aJ (ak aJ (aC jT (aj (mC (.str [112,108,97,105,110])) (aj (mC (.str [])) ao))) (aC mL (aj (mC (.tup [.str [46],.str [46]])) (aj (mC (.str [105,110,107])) (aj (ak gIx (aa 1) (mC (.int 0))) ao))))) (aC mL (aj (mC (.tup [.str [46],.str [46]])) (aj (mC (.str [103,114,111,117,110,100])) (aj (ak gIx (aa 1) (mC (.int 1))) ao))))))
  (aA (mIf (az (ak gLt (aK aP (aj (aa 3) ao)) (aK aP (aj (aa 2) ao)))) (aa 3) (aa 2)))))
def vg:=aL 4 Ac
def QjD:ZV G "marks_between" ["pair","other"] 3 [.s,.s] vg:=by
 have:=G.f25
 have:=Qn8 G
 have:=yH G
 exists G.f64,["pair","other","straight","anew"],[.v,.v]
def Ad :=
 (aq (aB 2 (ak gIx (aa 1) (mC (.int 0))))
  (aq (aD (az (ak gEq (aa 2) (aN "Leaps" "last_at" jU (aa 0) ao))) (aA (bh ao)) aG)
  (aq (aB 3 (mIf (az (ak gLt (aa 2) (aK aP (aj (aX ["Leaps"] "look" (aa 0)) ao)))) (aC jT (aj (mC (.str [115,105,103,110])) (aj (ak gIx (ak gIx (aX ["Leaps"] "look" (aa 0)) (aa 2)) (mC (.int 0))) ao))) (mC (.str []))))
  (aq (aB 4 (bh ao))
  (aq (cA (bF (aN "Leaps" "nodes_at" mK (aa 0) (aj (ak aJ (aa 2) (mC (.int 1))) ao))) (mgN 5) (aq (aB 6 (aC vg (aj (ak gIx (aa 1) (mC (.int 1))) (aj (ak gIx (aa 5) (mC (.int 1))) ao))))
  (dR 4 (aU (aj (aK aP (aj (aa 6) ao)) (aj (ak aJ (aa 6) (aa 3)) (aj (aa 5) ao)))))))
  (aA (aa 4)))))))
def lG:=aL 7 Ad
def JK:dW G "Leaps" "moves_from" ["self","node"] 4 [.v,.s] lG:=by
 have:=G.f60
 have:=vf G
 have:=yH G
 have:=JH G
 have:=QjD G
 exists G.f65,["self","node","at","sign","moves","beyond","marks"],[.v,.v,.o,.v,.v]
def Ae :=
 (aA (ak gEq (ak gIx (aa 1) (mC (.int 0))) (aN "Leaps" "last_at" jU (aa 0) ao)))
def jV:=aL 2 Ae
def JL:ir G "Leaps" "is_end" ["self","node"] 2 [.v,.s] jV:=by
 have:=vf G
 exists G.f66,["self","node"],[]
def JM :=
 (aq (aB 3 uv)
  (aq (cA (bF (aN "Leaps" "nodes_at" mK (mG (aa 0)) (aj (aa 1) ao))) (mgN 4) (aq (fU (aa 3) (aa 4) (aN "Leaps" "moves_from" lG (mG (aa 0)) (aj (aa 4) ao)))
  (fU (mG (aa 2)) (aa 4) (mIf (bj (aN "Leaps" "is_end" jV (mG (aa 0)) (aj (aa 4) ao))) (mC (.int 0)) (mC .non)))))
  (aq (aB 5 (mC (.bl true)))
  (gO 10 (bj (aa 5)) (aq (aB 5 (mC (.bl false)))
  (qm 3 (cA (nR (aa 3)) (mgN 4) (aq (aB 6 (aC qQ (aj (dg (aa 3) (aa 4)) (aj (aa 2) ao))))
  (aD (bQ (az (iG (aa 6))) (bL (az (jE (dg (mG (aa 2)) (aa 4)))) (az (ak gLt (aa 6) (dg (mG (aa 2)) (aa 4)))))) (aq (fU (mG (aa 2)) (aa 4) (aa 6))
  (aB 5 (mC (.bl true)))) aG)))))))))
def qT:=aL 7 JM
def Qla:ZV G "price_nodes" ["trail","at","prices"] 5 [.s,.s,.s] qT:=by
 have:=JH G
 have:=JK G
 have:=JL G
 have:=JG G
 exists G.f67,["trail","at","prices","moves","node","changed","cost"],[.v,.v,.v,.v]
def Qub :=
 (aq (aB 1 uv)
  (aq (cA (t8 (aj (aN "Leaps" "last_at" jU (mG (aa 0)) ao) (aj (mUn kJ (mC (.int 1))) (aj (mUn kJ (mC (.int 1))) ao)))) (mgN 2) (fC (aC qT (aj (aa 0) (aj (aa 2) (aj (aa 1) ao))))))
  (aA (aa 1))))
def Af:=aL 3 Qub
def Qq2:ZV G "priced" ["trail"] 6 [.s] Af:=by
 have:=vf G
 have:=Qla G
 exists G.f68,["trail","prices","at"],[.v,.v]
def Ag :=
 (aq (aB 2 (aC qQ (aj (aa 0) (aj (aa 1) ao))))
  (aA (ak gIx (b7 (bF (aa 0)) 1 [1,2] (mgN 0) (az (ak gEq (aC oK (aj (aa 0) (aj (aa 1) ao))) (aa 2))) (aa 0)) (mC (.int 0)))))
def vh:=aL 3 Ag
def QiV:ZV G "first_cheapest" ["moves","prices"] 3 [.s,.s] vh:=by
 have:=JG G
 have:=JF G
 exists G.f69,["moves","prices","least"],[.v]
 refine gn (aZ IK) ["moves","prices","least"] ["move"] [1,2] rfl ?_ (λ_ _ _ _ P=>?_) (λ_ _ _ _ P=>?_) (λ_ _ _ _ P=>?_)
 symm
def QhX :=
 (aA (aU (aj (mC (.int 0)) (aj (mC (.tup [.str [46],.str [46]])) ao))))
def Ah:=aL 1 QhX
def QhH:ir G "Leaps" "first_node" ["self"] 1 [.v] Ah:=by
 have:=G.f25
 exists G.f70,["self"],[]
def Ai :=
 (aq (aB 1 (aC Af (aj (aa 0) ao)))
  (aq (aB 2 (aN "Leaps" "first_node" Ah (mG (aa 0)) ao))
  (aq (aB 3 (dg (aa 1) (aa 2)))
  (aq (aD (az (jE (aa 3))) (aA (mC .non)) aG)
  (aq (aB 4 (bh ao))
  (aq (gO 300 (bY (bj (aN "Leaps" "is_end" jV (mG (aa 0)) (aj (aa 2) ao)))) (aq (aB 5 (aC vh (aj (aN "Leaps" "moves_from" lG (mG (aa 0)) (aj (aa 2) ao)) (aj (aa 1) ao))))
  (aq (dR 4 (ak gIx (aa 5) (mC (.int 1))))
  (aB 2 (ak gIx (aa 5) (mC (.int 2)))))))
  (jK (aA (aU (aj (aa 3) (aj (aa 4) ao)))))))))))
def Aj:=aL 6 Ai
def Qq1:ZV G "way_of" ["trail"] 7 [.s] Aj:=by
 have:=Qq2 G
 have:=QhH G
 have:=JL G
 have:=QiV G
 have:=JK G
 exists G.f71,["trail","prices","node","cost","names","move"],[.v,.v,.v,.o,.v]
 refine xG 4 rfl ?_
 symm
def Ak :=
 (aA (aK ur (aj (ak aJ (bh (aj (ak gIx (mC (.tup [.str [46],.str [46]])) (mC (.int 0))) ao)) (b7 (bF (aa 0)) 1 [1] (mgN 0) bN (ak gIx (aa 0) (aa 1)))) ao)))
def qU:=aL 2 Ak
def Qma:ZO G "colours_of" ["look","place"] 1 [.s,.s] qU:=by
 have:=G.f25
 exists G.f72,["look","place"],[]
 refine gn (aZ IV) ["look","place"] ["letter"] [1] rfl ?_ (λ_ _ _ _ P=>?_) (λ_ _ _ _ P=>?_) (λ_ _ _ _ P=>?_)
 symm
def JN :=
 (aq (bI ["Leaps"] "look" (aa 0) (aK kY (aj (aa 1) ao)))
  (bI ["Leaps"] "inks" (aa 0) (aC qU (aj (aa 1) (aj (mC (.int 1)) ao)))))
def vm:=aL 2 JN
def QiZ:uN G "Leaps" ["self","look"] 2 [.v,.s] vm:=by
 have:=G.f60
 have:=G.f62
 have:=Qma G
 exists G.f73,["self","look"],[]
def Al :=
 (aq (aB 1 (aC Aj (aj (dD "Leaps" vm (aj (aa 0) ao)) ao)))
  (aA (aU (aj (ak gIx (aa 1) (mC (.int 0))) (aj (lX (ak gIx (aa 1) (mC (.int 1)))) ao)))))
def Am:=aL 2 Al
def Ql7:ZV G "shaded_way" ["look"] 8 [.s] Am:=by
 have:=Qq1 G
 have:=QiZ G
 exists G.f74,["look","way"],[.v]
def JP :=
 (aA (ak gIx (aC Am (aj (aa 0) ao)) (mC (.int 1))))
def qW:=aL 1 JP
def QrT:ZV G "shaded" ["look"] 9 [.s] qW:=by
 have:=Ql7 G
 exists G.f75,["look"],[]
def An :=
 (aq (aD (bL (bY (bj (cZ "list" (aa 0)))) (bY (az (fQ gLe gLe (mC (.int 1)) (aK aP (aj (aa 0) ao)) (mC (.int 6)))))) gM aG)
  (cA (pZ (aa 0)) (dM 2 (bM (mgN 1) (bM (mgN 2) d8))) (aq (aD (bY (bj (aC uO (aj (aa 2) ao)))) gM aG)
  (aD (az (ak (gIn false) (aa 2) (mSl (aa 0) moN (moS (aa 1))))) gM aG))))
def Ao:=aL 3 An
def Qk7:ZV G "check_names" ["names"] 2 [.s] Ao:=by
 have:=G.f77
 have:=Qpw G
 exists G.f76,["names","place","name"],[.v,.v]
def Qle :=
 (aA (mIf (bj (aa 1)) (ak aJ (aK xK (aj (aa 0) ao)) (mC (.str [32]))) (mC (.str []))))
def Aq:=aL 2 Qle
def Qka:ZV G "number_ahead" ["number","numbered"] 1 [.s,.s] Aq:=by
 exists G.f78,["number","numbered"],[]
def JQ :=
 (aq (aB 3 (aK nP (aj (b7 (bF (aa 1)) 1 [] (mgN 0) bN (aK aP (aj (aa 0) ao))) ao)))
  (aA (ak aJ (uw (mG (aa 0)) (aa 3)) (mIf (az (ak gEq (aa 2) (mC (.str [119,104,111,108,101])))) (mC (.str [124])) (mC (.str [62]))))))
def vo:=aL 4 JQ
def QqG:ZV G "head_of" ["name","names","word"] 1 [.s,.s,.s] vo:=by
 exists G.f79,["name","names","word","longest"],[.v]
 refine gn (aZ IW) ["name","names","word","longest"] ["one"] [] rfl ?_ (λ_ _ _ _ P=>?_) (λ_ _ _ _ P=>?_) (λ_ _ _ _ P=>?_)
 symm
def vp :=
 (aq (fC (aC Ao (aj (aa 1) ao)))
  (aq (bI ["Roll"] "names" (aa 0) (aK kY (aj (aa 1) ao)))
  (aq (bI ["Roll"] "numbered" (aa 0) (aa 3))
  (aq (bI ["Roll"] "rows" (aa 0) (mMl (bh ao)))
  (aq (bI ["Roll"] "hands" (aa 0) GR)
  (cA (bF (aa 1)) (mgN 4) (lg (aX ["Roll"] "hands" (aa 0)) (aa 4) (dD "Hand" u6 (aj (aa 4) (aj (aa 2) ao))))))))))
def Ar:=aL 5 vp
def QjE:uz Pr w K mg base "Roll" ["self","names","most","numbered"] [(.bool false)] 7 (vSp K mg [.v,.s,.s,.v] (rV K) Ar):=by
 have B:=G.B;have NK:=G.NK
 have:=G.f81
 have:=G.f82
 have:=G.f83
 have:=G.f84
 have:=Qk7 G
 have:=Qjq G
 refine QzX (k:=6) (b:=vp) G.f80 Jd (λ_ _ _ _ _ _ _=>kZ λ_=>kZ λ_=>kZ λ_=>kZ λ_=>xJ ⟨_,rfl,rfl⟩) 3 (λ_ _ _ _ _ _ _=>kZ λ_=>kZ λ_=>kZ λ_=>xJ ⟨_,rfl,rfl⟩) [.v,.s,.s,.v] [.v] kE Hs (body:=λf c A outer s H E zr P=>?_);have zn:=Jd.nd
 symm
def Av :=
 (aq (aB 3 (bh ao))
  (aq (cA (bF (aa 2)) (mgN 4) (aq (aB 5 (aC Aq (aj (ak aJ (ak aJ (aK aP (aj (aX ["Roll"] "rows" (aa 0)) ao)) (aK aP (aj (aa 3) ao))) (mC (.int 1))) (aj (aX ["Roll"] "numbered" (aa 0)) ao))))
  (dR 3 (ak aJ (ak aJ (aa 5) (aC vo (aj (aa 1) (aj (aX ["Roll"] "names" (aa 0)) (aj (ak gIx (aa 4) (mC (.int 1))) ao))))) (aC qW (aj (aC qP (aj (ak gIx (aa 4) (mC (.int 0))) ao)) ao))))))
  (aq (qg (aX ["Roll"] "rows" (aa 0)) (aa 3))
  (aA (aa 3)))))
def vq:=aL 6 Av
def JR:dW G "Roll" "add_rows" ["self","name","parts"] 10 [.v,.s,.s] vq:=by
 have:=G.f82
 have:=G.f83
 have:=G.f81
 have:=Qka G
 have:=QqG G
 have:=QrT G
 have:=QwM G
 exists G.f85,["self","name","parts","told","part","ahead"],[.o,.v,.v]
def Aw :=
 (aA (aN "Roll" "add_rows" vq (aa 0) (aj (aa 1) (aj (aN "Hand" "feed" yQ (aC oJ (aj (aX ["Roll"] "hands" (aa 0)) (aj (aa 1) ao))) (aj (aa 2) ao)) ao))))
def vz:=aL 3 Aw
def Qno:dW G "Roll" "feed" ["self","name","piece"] 11 [.v,.s,.s] vz:=by
 have:=G.f84
 have:=JR G
 have:=Qnf G
 have:=yV G
 exists G.f86,["self","name","piece"],[]
def Ay :=
 (aA (aN "Roll" "add_rows" vq (aa 0) (aj (aa 1) (aj (aN "Hand" "close" yR (aC oJ (aj (aX ["Roll"] "hands" (aa 0)) (aj (aa 1) ao))) ao) ao))))
def vA:=aL 2 Ay
def Qmf:dW G "Roll" "close" ["self","name"] 11 [.v,.s] vA:=by
 have:=G.f84
 have:=JR G
 have:=Ql3 G
 have:=yV G
 exists G.f87,["self","name"],[]
def Qjx :=
 (aA (aK kY (aj (aX ["Roll"] "rows" (aa 0)) ao)))
def Az:=aL 1 Qjx
def Qi1:dW G "Roll" "told_rows" ["self"] 1 [.v] Az:=by
 have:=G.f83
 exists G.f88,["self"],[]
def Qlm :=
 (aq (aB 2 (aC oJ (aj (aX ["Roll"] "hands" (aa 0)) (aj (aa 1) ao))))
  (aA (aU (aj (aN "Hand" "held_text" yS (aa 2) ao) (aj (mMl (aN "Hand" "open_letters" yU (aa 2) ao)) ao)))))
def oM:=aL 3 Qlm
def JS:ir G "Roll" "held_of" ["self","name"] 3 [.v,.s] oM:=by
 have:=G.f84
 have:=yV G
 have:=QiX G
 have:=Qg3 G
 exists G.f89,["self","name","hand"],[.v]
def Ba :=
 (aq (aD (az (ak gLt (aa 1) (aK aP (aj (aa 0) ao)))) (aA (ak gIx (aa 0) (aa 1))) aG)
  (aA (mC (.int 0))))
def qX:=aL 2 Ba
def Qob:ZV G "_law_cell" ["_law_script","_law_k"] 1 [.s,.s] qX:=by
 exists G.f90,["_law_script","_law_k"],[]
def QsP :=
 (aq (aD (az (ak gGt (aa 0) (ak iH (mC (.int 10)) (mC (.int 18))))) (aq (aB 2 (mG (aa 0)))
  (aq (cA (gw (aj (aa 1) ao)) (mgN 3) (aB 2 (ak kI (aa 2) (ak iH (mC (.int 10)) (mC (.int 9))))))
  (aA (ak bC (aa 2) (ak iH (mC (.int 10)) (mC (.int 9))))))) aG)
  (aq (aB 4 (ak aJ (ak bC (aa 0) (mC (.int 2147483647))) (mC (.int 7919))))
  (aq (cA (gw (aj (ak aJ (aa 1) (mC (.int 2))) ao)) (mgN 3) (aB 4 (ak bC (ak aJ (ak gP (aa 4) (mC (.int 48271))) (mC (.int 104729))) (mC (.int 2147483629)))))
  (aA (ak kI (ak bC (ak gP (aa 4) (aa 4)) (mC (.int 998244353))) (mC (.int 11)))))))
def cN:=aL 5 QsP
def qY:ZV G "_law_mix" ["_law_cell_here","_law_k"] 1 [.s,.s] cN:=by
 exists G.f91,["_law_cell_here","_law_k","_law_rest","_law_turn","_law_number"],[.v,.v,.v]
def Qn5 :=
 (aq (aB 0 (mC (.str [32,33,34,35,36,38,39,40,41,42,43,44,45,46,47,48,49,50,51,52,53,54,55,56,57,58,59,60,61,62,63,64,65,66,67,68,69,70,71,72,73,74,75,76,77,78,79,80,81,82,83,84,85,86,87,88,89,90])))
  (aA (ak aJ (aa 0) (mC (.str [91,92,93,94,95,96,97,98,99,100,101,102,103,104,105,106,107,108,109,110,111,112,113,114,115,116,117,118,119,120,121,122,123,124,125])))))
def JT:=aL 1 Qn5
def QnH:ZV G "_law_signs" [] 1 [] JT:=by
 exists G.f92,["_law_some"],[.v]
def Bb :=
 (aq (aB 1 (ak gIx (mC (.str [97,98,99,100,101,102,103,104,46])) (ak bC (aC cN (aj (aa 0) (aj (mC (.int 2)) ao))) (mC (.int 9)))))
  (aq (aB 2 (ak bC (aC cN (aj (aa 0) (aj (mC (.int 0)) ao))) (mC (.int 12))))
  (aq (aB 3 (aC cN (aj (aa 0) (aj (mC (.int 1)) ao))))
  (aq (aB 4 (bh (aj (mC (.str [91])) (aj (mC (.str [91,47])) (aj (ak aJ (mC (.str [91])) (aa 1)) (aj (ak aJ (mC (.str [91,47])) (aa 1)) (aj (mC (.str [91,105,93])) (aj (mC (.str [91,47,93])) (aj (ak aJ (ak aJ (ak aJ (mC (.str [91])) (aa 1)) (aa 1)) (mC (.str [93]))) (aj (mC (.str [91,65,93])) (aj (mC (.str [91,47,105,93])) (aj (mC (.str [91,91,91])) ao))))))))))))
  (aq (aB 4 (ak aJ (aa 4) (bh (aj (mC (.str [91,47,91])) (aj (ak aJ (ak aJ (mC (.str [91])) (aa 1)) (mC (.str [91]))) (aj (ak aJ (ak aJ (mC (.str [91,47])) (aa 1)) (mC (.str [47,93]))) (aj (ak aJ (ak aJ (mC (.str [91,47,47])) (aa 1)) (mC (.str [93]))) (aj (ak aJ (ak aJ (mC (.str [91])) (aa 1)) (mC (.str [10]))) (aj (mC (.str [93])) (aj (mC (.str [47])) ao))))))))))
  (aq (dR 4 (ak aJ (ak aJ (mC (.str [91,47])) (aa 1)) (mC (.str [9,93]))))
  (aq (aD (az (ak gLt (aa 2) (mC (.int 3)))) (aA (ak gIx (aC JT ao) (ak bC (aa 3) (mC (.int 93))))) aG)
  (aq (aD (az (ak gEq (aa 2) (mC (.int 3)))) (aA (ak gIx (mC (.str [32,65,66,90])) (ak bC (aa 3) (mC (.int 4))))) aG)
  (aq (aD (az (ak gEq (aa 2) (mC (.int 4)))) (aA (ak aJ (ak aJ (mC (.str [91])) (aa 1)) (mC (.str [93])))) aG)
  (aq (aD (az (ak gEq (aa 2) (mC (.int 5)))) (aA (ak aJ (ak aJ (mC (.str [91,47])) (aa 1)) (mC (.str [93])))) aG)
  (aq (aD (az (ak gEq (aa 2) (mC (.int 6)))) (aA (ak gIx (bh (aj (mC (.str [91,93])) (aj (mC (.str [91,91])) (aj (mC (.str [91,93,93])) (aj (mC (.str [91,91,93])) ao))))) (ak bC (aa 3) (mC (.int 4))))) aG)
  (aq (aD (az (ak gEq (aa 2) (mC (.int 9)))) (aA (ak gIx (bh (aj (mC (.str [10])) (aj (mC (.str [9])) (aj (mC (.str [10])) ao)))) (ak bC (aa 3) (mC (.int 3))))) aG)
  (aq (aD (az (ak gEq (aa 2) (mC (.int 10)))) (aA (aa 1)) aG)
  (aq (aD (az (ak gEq (aa 2) (mC (.int 11)))) (aA (mSl (mC (.str [111,117,116,119,101,97,118,101,115])) moN (moS (ak aJ (mC (.int 2)) (ak bC (aa 3) (mC (.int 8))))))) aG)
  (aA (ak gIx (aa 4) (ak bC (aa 3) (mC (.int 18)))))))))))))))))))
def vB:=aL 5 Bb
def QmF:ZV G "_law_token" ["_law_cell_here"] 2 [.s] vB:=by
 have:=qY G
 have:=QnH G
 exists G.f93,["_law_cell_here","_law_colour","_law_way","_law_pick","_law_odd"],[.v,.v,.v,.o]
def Bc :=
 (aq (aB 2 (mC (.str [97,98,99,100,101,102,103,104,46])))
  (aq (aB 3 (mSl (aa 0) (moS (mG (aa 1))) (moS (ak aJ (aa 1) (mC (.int 4))))))
  (aq (aD (az (ak gEq (ak gIx (aa 3) (mC (.int 0))) (mC (.str [10])))) (aA (aU (aj (aU (aj (mG (aa 1)) (aj (mC (.str [101,110,100])) (aj (mC (.str [])) ao)))) (aj (mC (.int 1)) ao)))) aG)
  (aq (aD (az (ak gEq (ak gIx (aa 3) (mC (.int 0))) (mC (.str [9])))) (aA (aU (aj (aU (aj (mG (aa 1)) (aj (mC (.str [97,110,101,119])) (aj (mC (.str [])) ao)))) (aj (mC (.int 1)) ao)))) aG)
  (aq (aD (az (ak gEq (mSl (aa 3) moN (moS (mC (.int 2)))) (mC (.str [91,93])))) (aA (aU (aj (aU (aj (mG (aa 1)) (aj (mC (.str [112,108,97,105,110])) (aj (mC (.str [])) ao)))) (aj (mC (.int 2)) ao)))) aG)
  (aq (aD (az (ak gEq (mSl (aa 3) moN (moS (mC (.int 2)))) (mC (.str [91,91])))) (aA (aU (aj (aU (aj (mG (aa 1)) (aj (mC (.str [115,105,103,110])) (aj (mC (.str [91])) ao)))) (aj (mC (.int 2)) ao)))) aG)
  (aq (aD (bQ (az (ak gGt (aK aP (aj (aa 3) ao)) (mC (.int 2)))) (bQ (az (ak gEq (ak gIx (aa 3) (mC (.int 0))) (mC (.str [91])))) (bQ (az (ak (gIn false) (ak gIx (aa 3) (mC (.int 1))) (aa 2))) (az (ak gEq (ak gIx (aa 3) (mC (.int 2))) (mC (.str [93]))))))) (aA (aU (aj (aU (aj (mG (aa 1)) (aj (mC (.str [105,110,107])) (aj (ak gIx (aa 3) (mC (.int 1))) ao)))) (aj (mC (.int 3)) ao)))) aG)
  (aq (aD (bQ (az (ak gEq (aK aP (aj (aa 3) ao)) (mC (.int 4)))) (bQ (az (ak gEq (mSl (aa 3) moN (moS (mC (.int 2)))) (mC (.str [91,47])))) (bQ (az (ak (gIn false) (ak gIx (aa 3) (mC (.int 2))) (aa 2))) (az (ak gEq (ak gIx (aa 3) (mC (.int 3))) (mC (.str [93]))))))) (aA (aU (aj (aU (aj (mG (aa 1)) (aj (mC (.str [103,114,111,117,110,100])) (aj (ak gIx (aa 3) (mC (.int 2))) ao)))) (aj (mC (.int 4)) ao)))) aG)
  (aA (aU (aj (aU (aj (mG (aa 1)) (aj (mC (.str [115,105,103,110])) (aj (ak gIx (aa 3) (mC (.int 0))) ao)))) (aj (mC (.int 1)) ao))))))))))))
def oN:=aL 4 Bc
def JV:ZV G "_law_item" ["_law_text","_law_at"] 1 [.s,.s] oN:=by
 exists G.f94,["_law_text","_law_at","_law_colours","_law_here"],[.v,.v]
def Qoy :=
 (aq (aB 1 (bh ao))
  (aq (aB 2 (mC (.int 0)))
  (aq (gO wF (az (ak gLt (aa 2) (aK aP (aj (aa 0) ao)))) (aq (jG (aC oN (aj (aa 0) (aj (aa 2) ao))) (dM 2 (bM (mgN 3) (bM (mgN 4) d8))))
  (aq (dR 1 (aa 3))
  (aB 2 (ak aJ (aa 2) (aa 4))))))
  (aA (aa 1)))))
def Bd:=aL 5 Qoy
def QnU:ZO G "_law_items" ["_law_text"] 2 [.s] Bd:=by
 have:=JV G
 exists G.f95,["_law_text","_law_items_here","_law_at","_law_item_here","_law_size"],[.o,.v,.v,.v]
def vC :=
 (aq (aB 1 (mC (.str [97,98,99,100,101,102,103,104,46])))
  (aq (aD (bL (az (ak gEq (aa 0) (mC (.str [91])))) (az (ak gEq (aa 0) (mC (.str [91,47]))))) (aA (mC (.bl true))) aG)
  (aq (aD (az (ak gEq (aK aP (aj (aa 0) ao)) (mC (.int 2)))) (aA (d7 (ak gEq (ak gIx (aa 0) (mC (.int 0))) (mC (.str [91]))) (ak (gIn false) (ak gIx (aa 0) (mC (.int 1))) (aa 1)))) aG)
  (aA (d7 (ak gEq (aK aP (aj (aa 0) ao)) (mC (.int 3))) (d7 (ak gEq (mSl (aa 0) moN (moS (mC (.int 2)))) (mC (.str [91,47]))) (ak (gIn false) (ak gIx (aa 0) (mC (.int 2))) (aa 1))))))))
def lH:=aL 2 vC
def QkP:ZV G "_law_is_held" ["_law_rest"] 1 [.s] lH:=by
 exists G.f96,["_law_rest","_law_colours"],[.v]
def QpK :=
 (aq (aB 1 (bh ao))
  (aq (aB 2 (mC (.int 0)))
  (aq (gO wF (az (ak gLt (aa 2) (aK aP (aj (aa 0) ao)))) (aq (aD (bQ (az (ak gLt (ak dO (aK aP (aj (aa 0) ao)) (aa 2)) (mC (.int 4)))) (bj (aC lH (aj (mSl (aa 0) (moS (aa 2)) moN) ao)))) (jK (aA (aU (aj (aa 1) (aj (mSl (aa 0) (moS (aa 2)) moN) ao))))) aG)
  (aq (jG (aC oN (aj (aa 0) (aj (aa 2) ao))) (dM 2 (bM (mgN 3) (bM (mgN 4) d8))))
  (aq (dR 1 (aa 3))
  (aB 2 (ak aJ (aa 2) (aa 4)))))))
  (jK (aA (aU (aj (aa 1) (aj (mC (.str [])) ao))))))))
def qZ:=aL 5 QpK
def JW:ZV G "_law_sure" ["_law_text"] 2 [.s] qZ:=by
 have:=QkP G
 have:=JV G
 exists G.f97,["_law_text","_law_items_here","_law_at","_law_item_here","_law_size"],[.o,.v,.v,.v]
 refine xG 1 rfl ?_
 symm
 refine xG 1 rfl ?_
 symm
def Qoj :=
 (aq (aB 2 (mMl (bh ao)))
  (aq (aB 3 (bh ao))
  (aq (aB 4 (mC (.bl false)))
  (aq (aB 5 (bh (aj (mC (.str [46])) (aj (mC (.str [46])) ao))))
  (aq (cA (bF (aa 0)) (dM 3 (bM (mgN 6) (bM (mgN 7) (bM (mgN 8) d8)))) (aq (aD (bQ (bj (aa 4)) (bQ (az (ak gNe (aa 7) (mC (.str [101,110,100])))) (az (ak gNe (aa 7) (mC (.str [97,110,101,119])))))) (aq (aB 3 (bh ao))
  (aB 4 (mC (.bl false)))) aG)
  (aq (aD (az (ak gEq (aa 7) (mC (.str [115,105,103,110])))) (aq (aD (az (ak gEq (aK aP (aj (aa 3) ao)) (aa 1))) (aq (gG (aa 2) (aU (aj (aa 3) (aj (mC (.str [109,111,114,101])) ao))))
  (aB 3 (bh ao))) aG)
  (aB 3 (ak aJ (aa 3) (bh (aj (aU (aj (aa 8) (aj (ak gIx (aa 5) (mC (.int 0))) (aj (ak gIx (aa 5) (mC (.int 1))) (aj (aa 6) ao))))) ao))))) (aD (az (ak gEq (aa 7) (mC (.str [105,110,107])))) (nM 5 (mC (.int 0)) (aa 8)) (aD (az (ak gEq (aa 7) (mC (.str [103,114,111,117,110,100])))) (nM 5 (mC (.int 1)) (aa 8)) (aB 5 (bh (aj (mC (.str [46])) (aj (mC (.str [46])) ao)))))))
  (aq (aD (az (ak gEq (aa 7) (mC (.str [97,110,101,119])))) (aB 4 (mC (.bl true))) aG)
  (aD (az (ak gEq (aa 7) (mC (.str [101,110,100])))) (aq (gG (aa 2) (aU (aj (aa 3) (aj (mC (.str [119,104,111,108,101])) ao))))
  (aq (aB 3 (bh ao))
  (aB 4 (mC (.bl false))))) aG)))))
  (aA (aU (aj (aa 2) (aj (aa 3) ao)))))))))
def Be:=aL 9 Qoj
def QnB:ZV G "_law_parts" ["_law_items_here","_law_most"] 1 [.s,.s] Be:=by
 exists G.f98,["_law_items_here","_law_most","_law_parts_here","_law_row","_law_stale","_law_colours","_law_place","_law_kind","_law_value"],[.v,.v,.v,.o,.v,.v,.v]
def JX :=
 (aA (d7 (cZ "int" (aa 0)) (tH (cZ "bool" (aa 0)))))
def q9:=aL 1 JX
def QnQ:ZV G "_law_whole" ["_law_found"] 1 [.s] q9:=by
 exists G.f99,["_law_found"],[]
def JZ :=
 (aq (aD (bL (bY (bj (cZ "list" (aa 0)))) (az (ak gNe (aK aP (aj (aa 0) ao)) (aK aP (aj (aa 1) ao))))) (aA (mC (.bl false))) aG)
  (aq (p7 (aa 0) (mgN 2) (aq (aD (bL (bY (bj (cZ "tuple" (aa 2)))) (bL (az (ak gNe (aK aP (aj (aa 2) ao)) (mC (.int 4)))) (bY (bj (aC q9 (aj (ak gIx (aa 2) (mC (.int 3))) ao)))))) (aA (mC (.bl false))) aG)
  (aD (az (ak gNe (b7 (bF (mSl (aa 2) moN (moS (mC (.int 3))))) 1 [] (mgN 0) bN (cZ "str" (aa 0))) (bh (aj (mC (.bl true)) (aj (mC (.bl true)) (aj (mC (.bl true)) ao)))))) (aA (mC (.bl false))) aG)))
  (aA (ak gEq (aa 0) (aa 1)))))
def rm:=aL 3 JZ
def Qhe:ZV G "_law_letters_right" ["_law_found","_law_due"] 2 [.s,.s] rm:=by
 have:=QnQ G
 exists G.f100,["_law_found","_law_due","_law_letter"],[.v]
 refine gn (aZ Jb) ["_law_found","_law_due","_law_letter"] ["_law_thing"] [] rfl ?_ (λ_ _ _ _ P=>?_) (λ_ _ _ _ P=>?_) (λ_ _ _ _ P=>?_)
 symm
def Bf :=
 (aq (aB 2 (mC (.str [97,98,99,100,101,102,103,104,105,106,107,108,109,110,111,112,113,114,115,116,117,118,119,120,121,122])))
  (aq (aB 3 (lX (b7 (gw (aj (mC (.int 8)) ao)) 1 [0,2] (mgN 0) bN (ak gIx (aa 2) (ak bC (aC cN (aj (aa 1) (aj (ak aJ (mC (.int 20)) (aa 0)) ao))) (mC (.int 26)))))))
  (aq (aB 4 (b7 (gw (aj (aa 1) ao)) 1 [3] (mgN 0) bN (mSl (aa 1) moN (moS (ak dO (mC (.int 8)) (aa 0))))))
  (aq (aD (az (ak gGt (ak bC (aC cN (aj (aa 0) (aj (mC (.int 28)) ao))) (mC (.int 3))) (mC (.int 0)))) (aq (aB 5 (ak aJ (mC (.int 1)) (ak bC (aC cN (aj (aa 0) (aj (mC (.int 29)) ao))) (mC (.int 8)))))
  (aq (aB 6 (ak bC (aC cN (aj (aa 0) (aj (mC (.int 30)) ao))) (aa 5)))
  (aq (aB 7 (ak bC (aC cN (aj (aa 0) (aj (mC (.int 31)) ao))) (mC (.int 20))))
  (aB 4 (b7 (gw (aj (aa 1) ao)) 1 [2,3,5,6,7] (mgN 0) bN (ak aJ (ak aJ (mSl (aa 2) moN (moS (aa 4))) (ak gIx (aa 1) (ak aJ (aa 5) (aa 0)))) (mSl (aa 2) (moS (ak aJ (aa 4) (mC (.int 1)))) (moS (aa 3))))))))) aG)
  (aq (aD (az (ak gEq (ak bC (aC cN (aj (aa 0) (aj (mC (.int 32)) ao))) (mC (.int 2))) (mC (.int 0)))) (ue 4) aG)
  (aA (aa 4)))))))
def Bg:=aL 8 Bf
def QmH:ZO G "_law_names" ["_law_cell_here","_law_many"] 2 [.s,.s] Bg:=by
 have:=qY G
 exists G.f101,["_law_cell_here","_law_many","_law_letters","_law_base","_law_names_here","_law_size","_law_at","_law_first"],[.v,.v,.o,.v,.v,.v]
 refine gn (aZ qJ) ["_law_cell_here","_law_many","_law_letters","_law_base","_law_names_here","_law_size","_law_at","_law_first"] ["_law_k"] [0,2] rfl ?_ (λ_ _ _ _ P=>?_) (λ_ _ _ _ P=>?_) (λ_ _ _ _ P=>?_)
 symm
 refine FQ (i:=4) (aZ qJ) ["_law_cell_here","_law_many","_law_letters","_law_base","_law_names_here","_law_size","_law_at","_law_first"] ["_law_k"] [3] Je.nd rfl (.inl rfl) rfl ?_ (λ_ _ _ _ P=>?_) (λ_ _ _ _ P=>?_) (λ_ _ _ _ P=>?_)
 symm
 refine FQ (i:=4) (aZ qJ) ["_law_cell_here","_law_many","_law_letters","_law_base","_law_names_here","_law_size","_law_at","_law_first"] ["_law_k"] [2,3,5,6,7] Je.nd rfl (.inl rfl) rfl ?_ (λ_ _ _ _ P=>?_) (λ_ _ _ _ P=>?_) (λ_ _ _ _ P=>?_)
 symm
def Bh :=
 (aq (aB 3 (ak gIx (aC qZ (aj (aa 0) ao)) (mC (.int 0))))
  (aq (aD (bj (aa 2)) (aB 3 (aC Bd (aj (aa 0) ao))) aG)
  (aq (jG (aC Be (aj (aa 3) (aj (aa 1) ao))) (dM 2 (bM (mgN 4) (bM (mgN 5) d8))))
  (aq (aD (bQ (bj (aa 2)) (bL (az (ak gNe (aa 5) (bh ao))) (bQ (az (ak gNe (aa 4) (bh ao))) (az (ak gEq (ak gIx (ak gIx (aa 4) (mUn kJ (mC (.int 1)))) (mC (.int 1))) (mC (.str [109,111,114,101]))))))) (gG (aa 4) (aU (aj (aa 5) (aj (mC (.str [119,104,111,108,101])) ao)))) aG)
  (aA (aU (aj (aa 4) (aj (aa 5) ao))))))))
def iu:=aL 6 Bh
def J0:ZV G "_law_told" ["_law_text","_law_most","_law_closed"] 3 [.s,.s,.s] iu:=by
 have:=JW G
 have:=QnU G
 have:=QnB G
 exists G.f102,["_law_text","_law_most","_law_closed","_law_items_here","_law_parts_here","_law_row"],[.v,.v,.v]
def Qox :=
 (aq (aB 1 (aC vB (aj (aa 0) ao)))
  (aq (aD (az (ak gEq (ak bC (aC cN (aj (aa 0) (aj (mC (.int 10)) ao))) (mC (.int 4))) (mC (.int 0)))) (aA (mC (.str [10]))) aG)
  (aq (aD (az (ak gEq (ak bC (aC cN (aj (aa 0) (aj (mC (.int 11)) ao))) (mC (.int 5))) (mC (.int 0)))) (aA (mSl (aa 1) moN (moS (ak bC (aC cN (aj (aa 0) (aj (mC (.int 12)) ao))) (ak aJ (aK aP (aj (aa 1) ao)) (mC (.int 1))))))) aG)
  (aA (aa 1)))))
def vD:=aL 2 Qox
def QmQ:ZV G "_law_piece" ["_law_cell_here"] 3 [.s] vD:=by
 have:=QmF G
 have:=qY G
 exists G.f103,["_law_cell_here","_law_piece_here"],[.v]
def Bj :=
 (aq (aB 4 (aN "Roll" "held_of" oM (mG (aa 0)) (aj (aa 1) ao)))
  (aq (aD (bL (bY (bj (cZ "tuple" (aa 4)))) (bL (az (ak gNe (aK aP (aj (aa 4) ao)) (mC (.int 2)))) (bY (bj (cZ "str" (ak gIx (aa 4) (mC (.int 0)))))))) (aA (mC (.bl false))) aG)
  (aq (aD (bL (az (ak gNe (ak gIx (aa 4) (mC (.int 0))) (ak gIx (aC qZ (aj (aa 2) ao)) (mC (.int 1))))) (bY (bj (aC rm (aj (ak gIx (aa 4) (mC (.int 1))) (aj (ak gIx (aC iu (aj (aa 2) (aj (aa 3) (aj (mC (.bl false)) ao)))) (mC (.int 1))) ao)))))) (aA (mC (.bl false))) aG)
  (aq (gG (ak gIx (aa 4) (mC (.int 1))) (aU (aj (mC (.str [120])) (aj (mC (.str [46])) (aj (mC (.str [46])) (aj (mC (.int 0)) ao))))))
  (aA (mC (.bl true)))))))
def oO:=aL 5 Bj
def QiU:ZV G "_law_held_right" ["_law_roll","_law_name","_law_text","_law_most"] 4 [.s,.s,.s,.s] oO:=by
 have:=JS G
 have:=JW G
 have:=Qhe G
 have:=J0 G
 exists G.f104,["_law_roll","_law_name","_law_text","_law_most","_law_found"],[.v]
def QkT :=
 (aq (aB 1 (aC vD (aj (aa 0) ao)))
  (aq (aD (az (ak gEq (ak bC (aC cN (aj (aa 0) (aj (mC (.int 15)) ao))) (mC (.int 2))) (mC (.int 0)))) (aA (bh (aj (aa 1) ao))) aG)
  (aA (b7 (bF (aa 1)) 1 [] (mgN 0) bN (aa 0)))))
def rz:=aL 2 QkT
def Qj4:ZO G "_law_signs_of" ["_law_cell_here"] 4 [.s] rz:=by
 have:=QmQ G
 have:=qY G
 exists G.f105,["_law_cell_here","_law_piece_here"],[.v]
 refine gn (aZ Jc) ["_law_cell_here","_law_piece_here"] ["_law_sign"] [] rfl ?_ (λ_ _ _ _ P=>?_) (λ_ _ _ _ P=>?_) (λ_ _ _ _ P=>?_)
 symm
def Bk :=
 (aq (aB 1 (aC qX (aj (aa 0) (aj (mC (.int 0)) ao))))
  (aq (aB 2 (aC Bg (aj (aa 1) (aj (ak aJ (mC (.int 1)) (ak bC (aC cN (aj (aa 1) (aj (mC (.int 33)) ao))) (mC (.int 3)))) ao))))
  (aq (aB 3 (ak aJ (mC (.int 1)) (ak bC (aC cN (aj (aa 1) (aj (mC (.int 34)) ao))) (mC (.int 9)))))
  (aq (aB 4 (dD "Roll" Ar (maD (aj (aa 2) (aj (aa 3) ao)) (.bl false))))
  (aq (aB 5 (uy (aj (b7 (bF (aa 2)) 1 [] (mgN 0) bN (aU (aj (aa 0) (aj (mC (.str [])) ao)))) ao)))
  (aq (cA (bF (mSl (aa 0) (moS (mC (.int 1))) (moS (mC (.int 25))))) (mgN 6) (aq (aB 7 (ak gIx (aa 2) (ak bC (aC cN (aj (aa 6) (aj (mC (.int 3)) ao))) (aK aP (aj (aa 2) ao)))))
  (aq (cA (bF (aC rz (aj (aa 6) ao))) (mgN 8) (aq (aB 9 (aK aP (aj (ak gIx (aC iu (aj (cQ (aa 5) (aa 7)) (aj (aa 3) (aj (mC (.bl false)) ao)))) (mC (.int 0))) ao)))
  (aq (lg (aa 5) (aa 7) (ak aJ (cQ (aa 5) (aa 7)) (aa 8)))
  (aq (aB 10 (ak dO (aK aP (aj (ak gIx (aC iu (aj (cQ (aa 5) (aa 7)) (aj (aa 3) (aj (mC (.bl false)) ao)))) (mC (.int 0))) ao)) (aa 9)))
  (aD (bL (az (ak gNe (aK aP (aj (aN "Roll" "feed" vz (aa 4) (aj (aa 7) (aj (aa 8) ao))) ao)) (aa 10))) (bY (bj (aC oO (aj (aa 4) (aj (aa 7) (aj (cQ (aa 5) (aa 7)) (aj (aa 3) ao)))))))) (aA (mC (.bl false))) aG)))))
  (aq (aB 11 (ak gIx (aa 2) (ak bC (aC cN (aj (aa 6) (aj (mC (.int 16)) ao))) (aK aP (aj (aa 2) ao)))))
  (aD (bY (bj (aC oO (aj (aa 4) (aj (aa 11) (aj (cQ (aa 5) (aa 11)) (aj (aa 3) ao))))))) (aA (mC (.bl false))) aG)))))
  (aq (cA (bF (aa 2)) (mgN 7) (aq (aB 9 (aK aP (aj (ak gIx (aC iu (aj (cQ (aa 5) (aa 7)) (aj (aa 3) (aj (mC (.bl false)) ao)))) (mC (.int 0))) ao)))
  (aq (aD (az (ak gNe (aK aP (aj (aN "Roll" "close" vA (aa 4) (aj (aa 7) ao)) ao)) (ak dO (aK aP (aj (ak gIx (aC iu (aj (cQ (aa 5) (aa 7)) (aj (aa 3) (aj (mC (.bl true)) ao)))) (mC (.int 0))) ao)) (aa 9)))) (aA (mC (.bl false))) aG)
  (aD (az (qd true 4 (aN "Roll" "held_of" oM (aa 4) (aj (aa 7) ao)) (aU (aj (mC (.str [])) (aj (bh ao) ao))))) (aA (mC (.bl false))) aG))))
  (aA (ak gEq (aK aP (aj (aN "Roll" "told_rows" Az (aa 4) ao) ao)) (aK nH (aj (b7 (bF (aa 2)) 1 [3,5] (mgN 0) bN (aK aP (aj (ak gIx (aC iu (aj (cQ (aa 2) (aa 0)) (aj (aa 1) (aj (mC (.bl true)) ao)))) (mC (.int 0))) ao))) ao)))))))))))
def J1:=aL 12 Bk
def Qyo:ZV G "law" ["_law_script"] 12 [.s] J1:=by
 have:=Qob G
 have:=QmH G
 have:=qY G
 have:=QjE G
 have:=Qj4 G
 have:=J0 G
 have:=Qno G
 have:=QiU G
 have:=Qmf G
 have:=JS G
 have:=Qi1 G
 exists G.f106,["_law_script","_law_cell_here","_law_names_here","_law_most","_law_roll","_law_texts","_law_one","_law_name","_law_piece_here","_law_ahead","_law_many","_law_other"],[.v,.v,.v,.v,.v,.v,.v,.v,.v,.v,.v]
 refine gn (aZ jR) ["_law_script","_law_cell_here","_law_names_here","_law_most","_law_roll","_law_texts","_law_one","_law_name","_law_piece_here","_law_ahead","_law_many","_law_other"] ["_law_name"] [] rfl ?_ (λ_ _ _ _ P=>?_) (λ_ _ _ _ P=>?_) (λ_ _ _ _ P=>?_)
 symm
 refine gn (aZ jR) ["_law_script","_law_cell_here","_law_names_here","_law_most","_law_roll","_law_texts","_law_one","_law_name","_law_piece_here","_law_ahead","_law_many","_law_other"] ["_law_name"] [3,5] rfl ?_ (λ_ _ _ _ P=>?_) (λ_ _ _ _ P=>?_) (λ_ _ _ _ P=>?_)
 symm
end
def aY      (c:a ρ O=.ok x O)(hb:b ρ O=.ok y O)(h:g (aW O x) (aW O y)=some z):ak g a b ρ O=.ok z O:=by
 rw[uA,c,aO,hb,aO,h,gW]
def ma1     (h:a ρ O=.ok x O):aj a ao ρ O=.ok [x] O:=by
 rw[gZ,h,aO,jO,aO]
def maS       (h:a ρ O=.ok x O)(h2:r ρ O=.ok xs O):aj a r ρ O=.ok (x::xs) O:=by
 rw[gZ,h,aO,h2,aO]
def Bl     (h:m ρ O=.ok xs O)(b:xs.length<=1000000):aU m ρ O=.ok (.tup xs) O:=by
 rw[yh,h,aO,if_pos b]
def QCx     (h:m ρ O=.ok xs O)(b:xs.length<=1000000):bh m ρ O=.ok (.lst xs) O:=by
 rw[Hu,h,aO,if_pos b]
def iW       (h:m ρ O=.ok xs O)(b:g (xs.map (aW O))=some z):aK g m ρ O=.ok z O:=by
 rw[qx,h,aO,b,gW]
def Bm       (b:m ρ O=.ok d O)(h:ρ[i]?=some (some (.lst ds)))(c:ds.length<1000000):dR i m ρ O=.nx (ρ.set i (some (.lst (ds++[d])))) O:=by
 rw[uJ,b,uK h c]
def bw      (h:m ρ O=.ok d O):aB i m ρ O=.nx (ρ.set i (some d)) O:=by
 rw[qC,h,qD]
def bA      (h:ma ρ O=.ok ds O):aC c ma ρ O=c ds O:=by
 rw[mq,h,aO]
def cT     (h:m ρ O=.ok (.bl b) O):az m ρ O=.ok b O:=by
 rw[uC,h,aO,uB]
def dG     (h:t ρ O=.ok true O):aD t a b ρ O=a ρ O:=by
 rw[iT,h,nZ,if_pos rfl]
def cI     (h:t ρ O=.ok false O):aD t a b ρ O=b ρ O:=by
 rw[iT,h,nZ,if_neg zv]
def oR     (h:m ρ O=.ok (.lst l) O):aK aP (aj m ao) ρ O=.ok (.int (l.length:Int)) O:=iW (ma1 h) rfl
def Qx3     (h:m ρ O=.ok (.int (n:Int)) O)(b:n<=1000000):gw (aj m ao) ρ O=.ok (gR 0 n) O:=by
 rw[QzM,ma1 h];show(if(n:Int)<=1000000000/\-1000000000<=(n:Int) then Res.ok _ O else .no)=_;rw[if_pos ⟨by omega,by omega⟩,Int.toNat_natCast]
def cX     (d:a ρ O=.ok (.int i) O)(hb:b ρ O=.ok (.int j) O)(c:0<j):ak bC a b ρ O=.ok (.int (i % j)) O:=aY d hb (by rw[gY,gY,Qz6,if_pos c])
def jW     (c:a ρ O=.ok (.int i) O)(hb:b ρ O=.ok (.int j) O):ak aJ a b ρ O=.ok (.int (i+j)) O:=aY c hb rfl
def J2     (c:a ρ O=.ok (.int i) O)(hb:b ρ O=.ok (.int j) O):ak dO a b ρ O=.ok (.int (i - j)) O:=aY c hb rfl
def J3     (c:a ρ O=.ok (.int i) O)(hb:b ρ O=.ok (.int j) O):az (ak gLt a b) ρ O=.ok (decide (i<j)) O:=cT (aY c hb rfl)
def mO     (c:a ρ O=.ok (.int i) O)(hb:b ρ O=.ok (.int j) O):az (ak gEq a b) ρ O=.ok (decide (i=j)) O:=cT (aY c hb rfl)
def J4       (h:a ρ O=.ok x O1)(h2:r ρ O1=.ok xs b):aj a r ρ O=.ok (x::xs) b:=by
 rw[gZ,h,aO,h2,aO]
def fZ     (h:a ρ O=.ok x O1):aj a ao ρ O=.ok [x] O1:=J4 h rfl
def mQ      (h:m ρ O=.ok d O1):aB i m ρ O=.nx (ρ.set i (some d)) O1:=by
 rw[qC,h,qD]
def Bo    (h:m ρ O=.ok (.bl true) b):bY (bj m) ρ O=.ok false b:=by
 rw[jN,iR,h];rfl
def Bp    (c:a ρ O=.ok false O1)(hb:b ρ O1=.ok false d):bL a b ρ O=.ok false d:=by
 rw[lB,c,aO,if_neg zv,hb]
def ifN     (h:t ρ O=.ok false b):aD t a aG ρ O=.nx ρ b:=by
 rw[iT,h];rfl
def ifY     (h:t ρ O=.ok true c):aD t a b ρ O=a ρ c:=by
 rw[iT,h];rfl
def Bq      (h:ma ρ O=.ok ds O1):aC c ma ρ O=c ds O1:=by
 rw[mq,h,aO]
def jX      (c:a ρ O=.ok x O1)(hb:b ρ O1=.ok y d)(h:g (aW d x) (aW d y)=some z):ak g a b ρ O=.ok z d:=by
 rw[uA,c,aO,hb,aO,h,gW]
def Br     (h:m ρ O=.ok (.bl b) c):az m ρ O=.ok b c:=by
 rw[uC,h,aO,uB]
def jY       (c:g d ρ=some ρ1)(hb:b ρ1 O=.nx ρ2 f):bB g b (d::ds) ρ O=bB g b ds ρ2 f:=by
 conv=>lhs;unfold bB
 rw[c]
 dsimp
 rw[hb]
def st(c:Nat):D:=.str [c]
def kz(ks:List Nat):List (List Nat):=ks.map λc=>[c]
def Bs  :[c]∈kz ks↔c∈ks:=by simp[kz]
theorem J5:∀ks:List Nat,strsT (ks.map st)=some (kz ks)
 | []=>rfl
 |c::ks=>by
  show(strsT _).map _=_;rw[J5];rfl
def mR(ks:List Nat):List Nat:=(jM (kz ks)).map λl=>l.headD 0
def J6   (h:l∈kz ks):∃c,l=[c]/\c∈ks:=by
 obtain⟨c,b,rfl⟩:=zA.mp h;exact⟨c,rfl,b⟩
def Bt(ks:List Nat):jM (kz ks)=kz (mR ks):=by
 unfold mR kz;rw[zR]
 conv=>lhs;rw[<-List.map_id (jM _)]
 refine jd λl b=>?_
 obtain⟨c,rfl,_⟩:=J6 ((uh l _).mp b);rfl
def J7(ks:List Nat)(c:Nat):c∈mR ks↔c∈ks:=by
 rw[<-Bs,<-Bt,uh,Bs]
def J8(ks:List Nat):(mR ks).Nodup:=by
 have h:=xW (kz ks);rw[Bt] at h;unfold kz at h;rw[List.pairwise_map] at h
 exact h.imp λ{a b} hab e=>by
  subst e;exact List.lt_irrefl _ hab
theorem sub_len{α:Type}[DecidableEq α]:∀(l m:List α),l.Nodup->(∀x∈l,x∈m)->l.length<=m.length
 | [],_,_,_=>Nat.zero_le _
 |x::l,m,h,hs=>by
  obtain⟨h1,h2⟩:=List.nodup_cons.mp h;have hx:=hs x ze
  have:=sub_len l (m.erase x) h2 λy b=>(List.mem_erase_of_ne λe=>h1 (by rw[<-e];exact b)).mpr (hs y (zp _ b))
  rw[List.length_erase_of_mem hx] at this;have c:=List.length_pos_of_mem hx;rw[zz];omega
def Qt1{M:List Nat}(h:∀c∈ks,c∈M):(mR ks).length<=M.length:=sub_len _ _ (J8 ks) λc b=>h c ((J7 ks c).mp b)
def Qw7{M:List Nat}(h:∀c∈ks,c∈M):((kz ks).foldl stepT []).length<=M.length:=by
 have:=sub_len _ _ (xX _ [] .nil) λl b=>by
  rcases(uo l _ []).mp b with z | z
  ·cases z
  ·obtain⟨c,rfl,d⟩:=J6 z;exact Bs.mpr (h c d)
 unfold kz at this ⊢
 rwa [zd] at this
def Qxo{M:List Nat}(h0:ks≠[])(b:ks.length<4000)(h:∀c∈ks,c∈M)(d:M.length<64):ur [.lst (ks.map st)]=some (.lst ((mR ks).map st)):=by
 show uq (.lst _)=_;unfold uq
 dsimp
 rw[J5]
 dsimp
 have hl':(kz ks).length<4000:=by unfold kz;rw[zd];exact b
 have h0':kz ks≠[]:=λe=>h0 (by exact List.map_eq_nil_iff.mp e)
 rw[if_pos ⟨hl',h0',Nat.lt_of_le_of_lt (Qw7 h) d⟩,Bt];unfold kz;rw[zR];rfl
def iw         (hv:u ρ O=.ok d O1)(b:mo ρ O1=.ok (.ob n) O1)(q:O1[n]?=some (.ins c fs))(m:c∈x)(j:fs.length<900):
  bI x f mo u ρ O=.nx ρ (O1.set n (.ins c (putD f d fs))):=by
 rw[yw,hv,yx,b];unfold puF
 dsimp
 rw[q]
 dsimp
 rw[if_pos ⟨m,j⟩]
def dw         (d:m ρ O=.ok (.ob n) O)(q:O[n]?=some (.ins c fs))(j:c∈u)(b:fs.lookup f=some y):
  aX u f m ρ O=.ok y O:=by
 rw[Ii,d];unfold eE
 dsimp
 rw[q]
 dsimp
 rw[if_pos j,b]
def dz          (b:mo ρ O=.ok (.ob n) O)(j:O[n]?=some (.ins c fs))(d:(fs.lookup m).isNone=true)(f:ma ρ O=.ok ds O):
  aN c m cf mo ma ρ O=cf (.ob n::ds) O:=by
 rw[uI,b];unfold meF
 dsimp
 rw[j]
 dsimp
 rw[if_pos ⟨rfl,d⟩,f,aO]
def dX{O:au} :(O++[o])[O.length]?=some o:=by
 rw[zK (zc _),Nat.sub_self];rfl
def mU{O:au}{o:Ob}:(O++[o]).set O.length b=O++[b]:=by
 rw[List.set_append_right _ _ (zc _),Nat.sub_self];rfl
def eZ     (h:m ρ O=.ok (.lst l) O):bF m ρ O=.ok l O:=by
 rw[ou,h,aO,Qr8,yp]
def lJ  {own:Nat}        (h:m ρ O=.ok ds O)(b:ds.length<=1000000)(h0:eU own cap ρ=d)(c:cj g t e ds d O []=.ok ys O1):b7 m own cap g t e ρ O=.ok (.lst ys) O1:=by
 rw[qF,h,aO,if_pos b,h0,c,aO]
def Bu      (h:m ρ O=.ok d O)(hd:aW O d=.lst l):aK kY (aj m ao) ρ O=.ok (.lst l) O:=by
 rw[qx,ma1 h,aO,zg,zX,hd,QwL,gW]
def not_no     (h:m ρ O=.ok (.bl true) O):aD (bY (bj m)) s aG ρ O=.nx ρ O:=by
 rw[iT,jN,iR,h,aO,lu,lA,nY,aO];rfl
def vG    (h:m ρ O=.ok (.bl true) O):bY (bj m) ρ O=.ok false O:=by
 rw[jN,iR,h,aO,lu,lA];rfl
def or_f    (h1:t1 ρ O=.ok false O)(h2:t2 ρ O=.ok false O):bL t1 t2 ρ O=.ok false O:=by
 rw[lB,h1,aO,if_neg zv,h2]
def vH{i:Nat}{m:L2.M D}{ρ:aM}{O O1:au}{d:D}(h:m ρ O=.ok d O1):aB i m ρ O=.nx (ρ.set i (some d)) O1:=by
 rw[qC,h,qD]
def vI     (h:m ρ O=.ok (.bl b) O):bj m ρ O=.ok b O:=by
 rw[iR,h,aO,lu,lA,nY]
def vJ      (h:m ρ O=.ok d O)(b:tyD (aW O d)=some t):cZ n m ρ O=.ok (.bl (dC t n)) O:=by
 rw[ym,h,aO,b,yj]
def fc     (h:m ρ O=.ok d O1):aA m ρ O=.rt d O1:=by rw[dF,h];rfl
def bc    (h:a ρ O=.nx ρ' c):aq a b ρ O=b ρ' c:=by rw[cM,h,gH]
def oU     (h:t ρ O=.ok false O):aD t a aG ρ O=.nx ρ O:=by rw[cI h];rfl
def J9     (h:t ρ O=.ok true O)(c:a ρ O=.nx ρ' d):aD t a b ρ O=.nx ρ' d:=by rw[dG h];exact c
def and_f    (h1:t1 ρ O=.ok false O):bQ t1 t2 ρ O=.ok false O:=by rw[qw,h1,aO,if_neg zv]
def Ka     (h1:t1 ρ O=.ok true O)(h2:t2 ρ O=.ok b O):bQ t1 t2 ρ O=.ok b O:=by rw[qw,h1];exact h2
abbrev L3:=Nat×Nat×Nat
def dK(x:L3):D:=.tup [st x.1,st x.2.1,st x.2.2]
def pr(p:Nat×Nat):D:=.tup [st p.1,st p.2]
def sgn(c:Nat):List Nat:=if c=91 then[91,91] else[c]
def QzD(c:Nat)(O:au):jT [.str bG,st c] O=.ok (.str (sgn c)) O:=by
 unfold sgn
 by_cases h:c=91
 ·subst h;rfl
 ·have e:gEq (.str [c]) (.str [91])=some (.bl false):=by rw[QBt,zk λz=>h (by injection z)]
  rw[if_neg h];show bu _=_;unfold Js;rw[cM,dG rfl,dF,lC,cT (aY rfl rfl e)];rfl
def QD2(c:Nat)(O:au):jT [.str fD,st c] O=.ok (.str [91,c,93]) O:=rfl
def QCR(c:Nat)(O:au):jT [.str fX,st c] O=.ok (.str [91,47,c,93]) O:=rfl
def QwV(O:au):jT [.str jQ,.str []] O=.ok (.str [91,93]) O:=rfl
def Bv(a b:Nat):gEq (st a) (st b)=some (.bl (decide (a=b))):=by
 show some _=_;rw[show decide _=decide (a=b) from decide_eq_decide.mpr ⟨λh=>by injection h,λh=>by rw[h]⟩]
def add_l     (c:a ρ O=.ok (.lst l) O)(hb:b ρ O=.ok (.lst m) O)(h:l.length+m.length<=1000000):ak aJ a b ρ O=.ok (.lst (l++m)) O:=aY c hb (by
 show(if l.length+m.length<=1000000 then some _ else none)=_
 rw[if_pos h])
def QAC  {i:Nat}  (h:(i=1/\c=x.2.1)\/(i=2/\c=x.2.2)):gIx (dK x) (.int (i:Int))=some (st c):=by
 rcases h with⟨rfl,rfl⟩ | ⟨rfl,rfl⟩<;>rfl
def QyK(l:List L3)(i:Nat)(f:L3->Nat)(j:∀x,(i=1/\f x=x.2.1)\/(i=2/\f x=x.2.2)){M:List Nat}(u:l.length<=1000)(q:M.length<64)(d:46∈M)(h:∀x∈l,f x∈M)(O:au):
  qU [.lst (l.map dK),.int (i:Int)] O=.ok (.lst ((mR (46::l.map f)).map st)) O:=by
 show bu (Ak [some _,some _] O)=_;unfold Ak
 have c:=iU (g:=mgN 0) (t:=bN) (m:=ak _ (aa 0) (aa 1)) (λρ=>∃a,ρ=[a,some _]) dK _ l [none,some (.int _)] O [] ⟨_,rfl⟩ (by
  rintro x hx ρ ⟨a,rfl⟩
  exact⟨_,rfl,⟨_,rfl⟩,rfl,aY rfl rfl (QAC (j x))⟩)
 rw[zO] at c;have e:=lJ (m:=bF (aa 0)) (ρ:=[some _,some _]) (own:=1) (cap:=[1]) (eZ rfl) (by rw[zd];omega) rfl c;rw[dF,iW (ma1 (add_l rfl e (by rw[zd];show 1+_<=_;omega)))]
 ·rfl
 ·have:=Qxo (ks:=46::l.map f) (by simp) (by rw[zz,zd];omega) (λc b=>by
   rcases zl.mp b with rfl | b
   ·exact d
   ·obtain⟨x,hx,rfl⟩:=zA.mp b
    exact h x hx) q
  rw[zg,zR] at this;exact this
def QBi(a b:List Nat):(S a == S b)=decide (a=b):=by
 by_cases h:a=b
 ·subst h;rw[zu rfl];exact beq_self_eq_true _
 ·rw[zk h]
  refine beq_eq_false_iff_ne.mpr λz=>h ?_
  have:=congrArg (λx =>x.cps.toList) z
  simpa [lV]
def sq    (h:a ρ O=.nx ρ' c):aq a b ρ O=b ρ' c:=by
 rw[cM,h,gH]
def Kc      (h:m ρ O=.ok d b):aB i m ρ O=.nx (ρ.set i (some d)) b:=by
 rw[qC,h,qD]
abbrev Nd:=Int×(Nat×Nat)
def dN(n:Nd):D:=.tup [.int n.1,pr n.2]
def key(n:Nd):NK:=(n.1,[.inr (S [n.2.1]),.inr (S [n.2.2])])
def vK(n:Nd):qj (dN n)=some (key n):=rfl
def pQ  (h:S [a]=S [b]):a=b:=by
 have:=QBi [a] [b]
 rw[h,beq_self_eq_true] at this;have q:=jj this.symm
 injection q
def rE :key a=key b↔a=b:=by
 constructor
 ·intro h;have h1:=congrArg Prod.fst h;have h2:=congrArg Prod.snd h;have h2' :=h2
  injection h2' with d c
  injection d with d
  injection c with c _
  injection c with c
  exact Prod.ext h1 (Prod.ext (pQ d) (pQ c))
 ·intro h;rw[h]
structure M3 where
 cost:Int
 name:List Nat
 other:Nd
def d3(m:M3):D:=.tup [.int m.cost,.str m.name,dN m.other]
def pD:Option Int->D
 |none=>.non
 |some i=>.int i
abbrev Tb:=List (Nd×Option Int)
def tab(ps:Tb):List (NK×D):=ps.map λx=>(key x.1,pD x.2)
def lk(ps:Tb)(n:Nd):Option (Option Int):=(ps.find? λx=>decide (x.1=n)).map (·.2)
def put(ps:Tb)(n:Nd)(v:Option Int):Tb:=if(ps.any λx=>decide (x.1=n))=true then ps.map (λx=>if x.1=n then(x.1,v) else x) else ps++[(n,v)]
theorem Kd(n:Nd):∀ps:Tb,valN (tab ps) (key n)=(lk ps n).map pD
 | []=>rfl
 |x::ps=>by
  have b:=Kd n ps;unfold valN lk tab;rw[zg,List.find?_cons,List.find?_cons]
  by_cases h:x.1=n
  ·simp[h]
  ·have h':¬key _=key n:=λz=>h (rE.mp z)
   simp only[h,h'];exact b
theorem Ke(n:Nd):∀ps:Tb,((tab ps).any λp=>decide (p.1=key n))=ps.any λx=>decide (x.1=n)
 | []=>rfl
 |x::ps=>by
  have b:=Ke n ps;unfold tab;rw[zg,List.any_cons];congr 1;exact decide_eq_decide.mpr rE
def QvZ(ps:Tb)(n:Nd)(v:Option Int):putN (tab ps) (key n) (pD v)=tab (put ps n v):=by
 unfold putN put;rw[Ke]
 split
 ·unfold tab;rw[zR,zR]
  refine jd λx _=>?_
  by_cases h:x.1=n
  ·simp[h]
  ·have h':¬key _=key n:=λz=>h (rE.mp z)
   simp[h,h']
 ·unfold tab;rw[zN];rfl
theorem Bw :∀{ps:Tb},(ps.any λx=>decide (x.1=n))=false->lk ps n=none
 | [],_=>rfl
 |x::ps,h=>by
  rw[List.any_cons,Bool.or_eq_false_iff] at h
  have:=Bw h.2
  unfold lk;rw[List.find?_cons,h.1];exact this
def oV(x:Nd×Option Int)(ps:Tb)(n:Nd):lk (x::ps) n=if x.1=n then some x.2 else lk ps n:=by
 unfold lk
 by_cases h:x.1=n
 ·simp[h]
 ·simp[h]
theorem Kf(n:Nd)(y:Nd×Option Int):∀ps:Tb,lk (ps++[y]) n=if(lk ps n).isSome=true then lk ps n else if y.1=n then some y.2 else none
 | []=>by
  rw[zO,oV];rfl
 |x::ps=>by
  rw[List.cons_append,oV,oV,Kf ]
  by_cases h:x.1=n
  ·simp[h]
  ·simp[h]
theorem Kg(n m:Nd)(v:Option Int):∀ps:Tb,lk (ps.map λx=>if x.1=n then(x.1,v) else x) m=if m=n then(lk ps m).map λ_=>v else lk ps m
 | []=>by simp[lk]
 |x::ps=>by
  rw[zg,oV,oV,Kg ]
  by_cases h:x.1=n
  ·by_cases b:m=n
   ·subst b;simp[h]
   ·have:¬n=m:=λz=>b z.symm
    simp[h,this]
  ·by_cases hx:x.1=m
   ·have:¬m=n:=λz=>h (hx.trans z)
    simp[h,this]
   ·simp[h,hx]
theorem Kh :∀{ps:Tb},(ps.any λx=>decide (x.1=n))=true->(lk ps n).isSome=true
 |x::ps,h=>by
  rw[oV]
  by_cases hx:x.1=n
  ·simp[hx]
  ·rw[if_neg hx];rw[List.any_cons,zk hx] at h;exact Kh h
def Kl(ps:Tb)(n m:Nd)(v:Option Int):lk (put ps n v) m=if m=n then some v else lk ps m:=by
 unfold put
 split
 ·rename_i h;rw[Kg]
  split
  ·rename_i b;subst b
   have:=Kh h
   cases e:lk ps m with
   |none=>rw[e] at this;cases this
   |some w=>rfl
  ·rfl
 ·rename_i h;have h0:=Bw (Bool.eq_false_iff.mpr h);rw[Kf]
  by_cases b:m=n
  ·subst b;simp[h0]
  ·have:¬n=m:=λz=>b z.symm
   simp[b,this]
   cases lk ps m<;>simp
def Qxr(ps:Tb)(n:Nd)(v:Option Int):(put ps n v).length<=ps.length+1:=by
 unfold put
 split
 ·rw[zd];omega
 ·rw[zf];exact zc _
def Qxn    (h:(lk ps n).isSome=true):(put ps n v).length=ps.length:=by
 unfold put
 split
 ·rw[zd]
 ·rename_i b;rw[Bw (Bool.eq_false_iff.mpr b)] at h;cases h
def Bx        (h1:mo ρ O=.ok (.ob p) O)(h2:O[p]?=some (.dn (tab ps)))(h3:my ρ O=.ok (dN n) O)(h4:lk ps n=some v):dg mo my ρ O=.ok (pD v) O:=by
 unfold dg;rw[h1]
 dsimp
 rw[h3]
 dsimp
 unfold nsG;rw[vK,h2]
 dsimp
 rw[Kd,h4];rfl
def QzT        (h1:mo ρ O=.ok (.ob q) O)(h2:O[q]?=some (.nf b))(h3:my ρ O=.ok (dN n) O)(h4:valN b (key n)=some d):dg mo my ρ O=.ok d O:=by
 unfold dg;rw[h1]
 dsimp
 rw[h3]
 dsimp
 unfold nsG;rw[vK,h2]
 dsimp
 rw[h4]
def Km        (h0:c ρ O=.ok (pD v) O)(h1:mo ρ O=.ok (.ob p) O)(h2:O[p]?=some (.dn (tab ps)))(h3:my ρ O=.ok (dN n) O)(b:ps.length<1000000):fU mo my c ρ O=.nx ρ (O.set p (.dn (tab (put ps n v)))):=by
 unfold fU;rw[h0]
 dsimp
 rw[h1]
 dsimp
 rw[h3]
 dsimp
 rw[vK,h2]
 dsimp
 rw[if_pos (by unfold tab;rw[zd];exact b),QvZ]
def co(ps:Tb)(m:M3):Option Int:=match lk ps m.other with
 |some (some b)=>some (m.cost+b)
 | _=>none
def lc(ps:Tb)(ms:List M3):Option Int:=mdI none (ms.filterMap (co ps))
def Ko     (f:O[p]?=some (.dn (tab ps)))(j:(lk ps m.other).isSome=true):oK [d3 m,.ob p] O=.ok (pD (co ps m)) O:=by
 obtain⟨v,c⟩:=Option.isSome_iff_exists.mp j;have d:dg (mG (aa 1)) (ak gIx (aa 0) (mC (.int 2))) [some (d3 m),some (.ob p),none] O=.ok _ O:=Bx rfl f (aY rfl rfl rfl) c;show bu (yX [some _,some _,none] O)=_;unfold yX;rw[sq (bw d)];unfold co;rw[c]
 cases v with
 | none
 |some b=>rfl
theorem ints_map:∀b:List Int,eV (b.map D.int)=some b
 | []=>rfl
 |i::b=>by
  show(eV _).map _=_;rw[ints_map];rfl
theorem Kq(ps:Tb):∀ms:List M3,(ms.map λm=>pD (co ps m)).filter (λd=>!isNon d)=(ms.filterMap (co ps)).map D.int
 | []=>rfl
 |m::ms=>by
  rw[zg,List.filter_cons,List.filterMap_cons,Kq ]
  cases co ps m<;>rfl
def Kr     (j:O[p]?=some (.dn (tab ps)))(q:∀m∈ms,(lk ps m.other).isSome=true)(y:ms.length<=1000):qQ [.lst (ms.map d3),.ob p] O=.ok (pD (lc ps ms)) O:=by
 have x:cj (mgN 0) bN (aC oK (aj (aa 0) (aj (aa 1) ao))) (ms.map d3) [none,some (.ob p)] O []=.ok (ms.map λm=>pD (co ps m)) O:=by
  rw[iU (λρ=>∃a,ρ=[a,some _]) d3 _ ms _ _ _ ⟨none,rfl⟩ (by
   rintro m hm' ρ ⟨a,rfl⟩
   exact⟨_,rfl,⟨_,rfl⟩,rfl,(bA (maS rfl (ma1 rfl))).trans (Ko j (q m hm'))⟩)]
  rw[zO]
 have f:b7 (bF (aa 0)) 1 [1] _ _ _ [some _,some _,none] O=.ok _ O:=lJ (eZ rfl) (by rw[zd];omega) rfl x
 have u:cj (mgN 0) (az (iG (aa 0))) (aa 0) (ms.map λm=>pD (co ps m)) [none] O []=.ok ((ms.filterMap (co ps)).map D.int) O:=by
  rw[Ia (λρ=>∃a,ρ=[a]) _ _ _ _ _ ⟨none,rfl⟩ (by
   rintro d hd ρ ⟨a,rfl⟩
   exact⟨_,rfl,⟨_,rfl⟩,rfl,rfl⟩)]
  rw[zO,Kq]
 have c:b7 (bF (aa 2)) 1 [] _ _ _ [some (.lst (ms.map d3)),some (.ob p),some _] O=.ok _ O:=lJ (eZ rfl) (by rw[zd];omega) rfl u
 have b:aK t7 _ _ O=.ok (pD (lc ps ms)) O:=iW (ma1 c) (by
  show(eV _).map _=_;rw[ints_map];show some (match mdI _ _ with | some m=>D.int m | none=>D.non)=some (pD (mdI _ _))
  cases mdI _ _<;>rfl)
 show bu (yZ [some _,some _,none] O)=_;unfold yZ;rw[sq (bw f)];exact congrArg (λr=>bu (lD r)) b
theorem Ks :∀{ms:List M3},(∀m∈ms,lk ps' m.other=lk ps m.other)->ms.filterMap (co ps')=ms.filterMap (co ps)
 | [],_=>rfl
 |m::ms,h=>by
  have e:co ps' m=co ps m:=by
   unfold co;rw[h m ze]
  rw[List.filterMap_cons,List.filterMap_cons,e,Ks λx hx=>h x (zp _ hx)]
def Ku   (h:∀m∈ms,lk b m.other=lk ps m.other):lc b ms=lc ps ms:=by
 unfold lc;rw[Ks h]
structure Trl(t:Nat)(fs:List (Str×D))(N:Nat)(nodes:Nat->List Nd)(mv:Nd->List M3)(fin:Nd->Bool):Prop where
 na:∀(O:au) (a:Nat),O[t]?=some (.ins "Leaps" fs)->a<=N->mK [.ob t,.int a] O=.ok (.lst ((nodes a).map dN)) O
 mf:∀(O:au) (a:Nat) (n:Nd),O[t]?=some (.ins "Leaps" fs)->a<=N->n∈nodes a->lG [.ob t,dN n] O=.ok (.lst ((mv n).map d3)) O
 ie:∀(O:au) (a:Nat) (n:Nd),O[t]?=some (.ins "Leaps" fs)->a<=N->n∈nodes a->jV [.ob t,dN n] O=.ok (.bl (fin n)) O
 la:∀O:au,O[t]?=some (.ins "Leaps" fs)->jU [.ob t] O=.ok (.int N) O
 fi:∀O:au,O[t]?=some (.ins "Leaps" fs)->Ah [.ob t] O=.ok (dN (0,(46,46))) O
 f0:((0,(46,46)):Nd)∈nodes 0
 nd:∀a,(nodes a).Nodup
 ln:∀a,(nodes a).length<=10
 fw:∀(a:Nat) (n:Nd),a<=N->n∈nodes a->∀m∈mv n,∃b,a<b/\b<=N/\m.other∈nodes b
 sp:∀(a b:Nat) (n:Nd),n∈nodes a->n∈nodes b->a=b
 ml:∀n,(mv n).length<=1000
 fe:∀n,fin n=true->mv n=[]
 u1:(fs.lookup ("nodes_at":Str)).isNone=true
 u2:(fs.lookup ("moves_from":Str)).isNone=true
 u3:(fs.lookup ("is_end":Str)).isNone=true
 u4:(fs.lookup ("last_at":Str)).isNone=true
 u5:(fs.lookup ("first_node":Str)).isNone=true
 hN:N<=1000
def cC(b:Nd->List M3)(ns:List Nd):List (NK×D):=ns.map λn=>(key n,D.lst ((b n).map d3))
theorem Kv(b:Nd->List M3)(n:Nd):∀ns:List Nd,((cC b ns).any λp=>decide (p.1=key n))=decide (n∈ns)
 | []=>rfl
 |x::ns=>by
  have c:=Kv b n ns;unfold cC at *;rw[zg,List.any_cons,c]
  by_cases h:x=n
  ·subst h;simp
  ·have h1:¬key x=key n:=λz=>h (rE.mp z)
   have h2:¬n=x:=λz=>h z.symm
   simp[h1,h2]
def Qtt    (h:n∉ns):putN (cC b ns) (key n) (.lst ((b n).map d3))=cC b (ns++[n]):=by
 unfold putN;rw[Kv,zk h];unfold cC;rw[zN];rfl
theorem Kw(b:Nd->List M3)(n:Nd):∀ns:List Nd,n∈ns->valN (cC b ns) (key n)=some (.lst ((b n).map d3))
 |x::ns,h=>by
  unfold valN cC;rw[zg,List.find?_cons]
  by_cases hx:x=n
  ·subst hx;simp
  ·have h1:¬key x=key n:=λz=>hx (rE.mp z)
   simp only[h1]
   rcases zl.mp h with rfl | h
   ·exact absurd rfl hx
   ·exact Kw b n ns h
def QqZ(b:Nd->List M3)(ns:List Nd):(cC b ns).map Hn=ns.map dN:=by
 unfold cC;rw[zR];rfl
def B_1:MS:=(aq (fU (aa 3) (aa 4) (aN "Leaps" "moves_from" lG (mG (aa 0)) (aj (aa 4) ao)))
  (fU (mG (aa 2)) (aa 4) (mIf (bj (aN "Leaps" "is_end" jV (mG (aa 0)) (aj (aa 4) ao))) (mC (.int 0)) (mC .non))))
def ini(fin:Nd->Bool)(n:Nd):Option Int:=if fin n=true then some 0 else none
def gb{O:au}{i:Nat}  (h1:O[i]?=some x)(h2:O[j]?=some y)(h:x≠y):i≠j:=λz=>by
 rw[z,h2] at h1;exact h (zC h1).symm
def rF{O:au}   (e:O[i]?=some x):(O.set i y)[i]?=some y:=by
 obtain⟨h⟩:=zt.mp e;simp[h]
def Qs0(T:Trl t fs N U Q fin)  (C:a<=N)  (y:n∈U a)  (m:n∉pre)   (d:O[t]?=some (.ins "Leaps" fs))(G:O[p]?=some (.dn (tab R)))(x:O[q]?=some (.dn (cC Q pre)))(f:p≠q)(I:R.length<1000000)(u:pre.length<1000000)(c b:Option D):
  B_1 [some (.ob t),some (.int a),some (.ob p),some (.ob q),some (dN n),c,b] O=.nx [some (.ob t),some (.int a),some (.ob p),some (.ob q),some (dN n),c,b] ((O.set q (.dn (cC Q (pre++[n])))).set p (.dn (tab (put R n (ini fin n))))):=by
 have E :=gb d x λz=>nomatch z
 have P:aN _ _ _ (mG (aa 0)) (aj (aa 4) _) [some (.ob t),some (.int a),some (.ob p),some (.ob q),some _,c,b] O=.ok _ O:=(dz rfl d T.u2 (ma1 rfl)).trans (T.mf O a n d C y)
 have F:fU (aa 3) (aa 4) (aN "Leaps" "moves_from" lG (mG (aa 0)) (aj (aa 4) ao)) [some (.ob t),some (.int a),some (.ob p),some (.ob q),some (dN n),c,b] O=.nx [some (.ob t),some (.int a),some (.ob p),some (.ob q),some (dN n),c,b] (O.set q (.dn (cC Q (pre++[n])))):=by
  unfold fU;rw[P];dsimp only;rw[show aa 3 _ O=.ok _ O from rfl];dsimp only;rw[show aa 4 _ O=.ok _ O from rfl]
  dsimp
  rw[vK,x]
  dsimp
  rw[if_pos (by unfold cC;rw[zd];exact u),Qtt m]
 have ht':(O.set q (.dn (cC Q (pre++[n]))))[t]?=some (.ins "Leaps" fs):=by rw[zh (Ne.symm E)];exact d
 have j:(O.set q (.dn (cC Q (pre++[n]))))[p]?=some (.dn (tab R)):=by rw[zh (Ne.symm f)];exact G
 have L:aN _ _ _ (mG (aa 0)) (aj (aa 4) _) [some (.ob t),some (.int a),some (.ob p),some (.ob q),some _,c,b] _=.ok _ _:=(dz rfl ht' T.u3 (ma1 rfl)).trans (T.ie _ a n ht' C y)
 have J:mIf (bj (aN "Leaps" "is_end" jV (mG (aa 0)) (aj (aa 4) ao))) (mC (.int 0)) (mC .non) [some (.ob t),some (.int a),some (.ob p),some (.ob q),some (dN n),c,b] (O.set q (.dn (cC Q (pre++[n]))))=.ok (pD (ini fin n)) (O.set q (.dn (cC Q (pre++[n])))):=by
  rw[lC,iR,L,aO,lu,lA];unfold ini
  cases fin n<;>rfl
 unfold B_1;rw[sq F];exact Km J rfl j rfl I
theorem Ky{fs:List (Str×D)}{N:Nat}{nodes:Nat->List Nd}{F:Nd->List M3}{fin:Nd->Bool}{p q:Nat}(T:Trl t fs N nodes F fin){a:Nat}(L:a<=N)(f:p≠q)(x y:Option D):∀(rest pre:List Nd) (O:au) (b:Tb) (C:Option D),(∀n∈rest,n∈nodes a)->(pre++rest).Nodup->O[t]?=some (.ins "Leaps" fs)->O[p]?=some (.dn (tab b))->O[q]?=some (.dn (cC F pre))->b.length+rest.length<1000000->pre.length+rest.length<1000000 ->
  ∃d c u,bB (mgN 4) B_1 (rest.map dN) [some (.ob t),some (.int a),some (.ob p),some (.ob q),C,x,y] O=.nx [some (.ob t),some (.int a),some (.ob p),some (.ob q),u,x,y] d/\d[p]?=some (.dn (tab c))/\d[q]?=some (.dn (cC F (pre++rest)))/\(∀j,j≠p->j≠q->d[j]?=O[j]?)/\(∀n,lk c n=if n∈rest then some (ini fin n) else lk b n)/\c.length<=b.length+rest.length
 | [],pre,O,b,C,_,_,_,hp,hq,_,_=>⟨O,b,C,rfl,hp,by rw[zJ];exact hq,λ_ _ _=>rfl,λn=>by simp,zc _⟩
 |n::rest,pre,O,b,C,hr,hd,ht,hp,hq,hl,hl2=>by
  rw[zz] at hl hl2;have R:=hr n ze
  have G :=λz=>(jo.mp hd).2.2 n z n ze rfl
  have U:=Qs0 T L R G ht hp hq f (by omega) (by omega) x
  have P :=gb ht hq λz=>nomatch z
  have Q :=gb ht hp λz=>nomatch z
  have W:=Qxr b n (ini fin n);obtain⟨d,c,u,e,h1,h2,h3,h4,X⟩:=Ky T L f x y _ (pre++[n]) ((O.set q (.dn _)).set p _) (put b n (ini fin n)) _ (λm E=>hr m (zp _ E)) (by rw[zH];exact hd)
   (by rw[zh (Ne.symm Q),zh (Ne.symm P)];exact ht) (rF (by rw[zh (Ne.symm f)];exact hp)) (by rw[zh f];exact rF hq) (by omega) (by rw[zf,zM];omega)
  refine⟨d,c,u,?_,h1,by rw[zH] at h2;exact h2,λj J I=>?_,λm=>?_,by rw[zz];omega⟩
  ·show(match B_1 [some _,some _,some _,some _,some _,x,y] O with
    | .nx ρ' d=>bB _ _ _ _ d | .ct ρ' d=>bB _ _ _ _ d | .bk ρ' d=>Fl.nx _ d | r=>r)=_
   rw[U];exact e
  ·rw[h3 j J I,zh (Ne.symm J),zh (Ne.symm I)]
  ·rw[h4,Kl]
   by_cases E:m=n
   ·subst E;simp
   ·simp[E]
def B_r:MS:=(aq (aB 6 (aC qQ (aj (dg (aa 3) (aa 4)) (aj (aa 2) ao))))
  (aD (bQ (az (iG (aa 6))) (bL (az (jE (dg (mG (aa 2)) (aa 4)))) (az (ak gLt (aa 6) (dg (mG (aa 2)) (aa 4)))))) (aq (fU (mG (aa 2)) (aa 4) (aa 6))
  (aB 5 (mC (.bl true)))) aG))
def better(v L:Option Int):Bool:=match L with
 |none=>false
 |some c=>match v with
  |none=>true
  |some w=>decide (c<w)
section
variable {t:Nat}{fs:List (Str×D)}{N:Nat}{nodes:Nat->List Nd}{mv:Nd->List M3}{fin:Nd->Bool}{p q:Nat}
def Qzr   (P:n∈ns)    (y:O[p]?=some (.dn (tab cur)))(L:O[q]?=some (.nf (cC mv ns)))(hv:lk cur n=some v)(Q:∀m∈mv n,(lk cur m.other).isSome=true)(C:(mv n).length<=1000)(R:cur.length<1000000)(b:Bool)(d a1 F:Option D):
  B_r [d,a1,some (.ob p),some (.ob q),some (dN n),some (.bl b),F] O=.nx [d,a1,some (.ob p),some (.ob q),some (dN n),some (.bl (b || better v (lc cur (mv n)))),some (pD (lc cur (mv n)))] (if better v (lc cur (mv n))=true then O.set p (.dn (tab (put cur n (lc cur (mv n))))) else O):=by
 have J:dg (aa 3) (aa 4) [d,a1,some (.ob p),some _,some _,some (.bl b),F] O=.ok _ O:=QzT rfl L rfl (Kw mv n ns P);have I:aC _ (aj _ (aj (aa 2) _)) _ O=.ok _ O:=(bA (maS J (ma1 rfl))).trans (Kr y Q C)
 have G:∀j ,dg (mG (aa 2)) (aa 4) [d,a1,some (.ob p),some (.ob q),some _,some (.bl b),j] O=.ok _ O:=λj=>Bx rfl y rfl hv
 unfold B_r;rw[sq (bw I)];show aD _ _ _ [d,a1,some _,some _,some _,some _,some _] O=_
 cases  lc _ _ with
 |none =>
  refine(cI ?_).trans ?_
  ·rfl
  ·simp[better]
 |some c =>
  have f:aq (fU (mG (aa 2)) (aa 4) (aa 6)) (aB 5 (mC (.bl true))) [d,a1,some (.ob p),some (.ob q),some (dN n),some (.bl b),some (pD (some c))] O=.nx [d,a1,some (.ob p),some (.ob q),some (dN n),some (.bl true),some (pD (some c))] (O.set p (.dn (tab (put cur n (some c))))):=by
   rw[sq (Km rfl rfl y rfl R)];rfl
  have E:az (iG (aa 6)) [d,a1,some (.ob p),some (.ob q),some (dN n),some (.bl b),some (pD (some c))] O=.ok _ O:=rfl
  have tB:az (jE (dg (mG (aa 2)) (aa 4))) [d,a1,some (.ob p),some (.ob q),some (dN n),some (.bl b),some (pD (some c))] O=.ok (isNon (pD v)) O:=by
   rw[uC,QAK,G,aO,aO,uB]
  cases v with
  |none =>
   refine(dG ?_).trans ?_
   ·rw[qw,E,aO,lB,tB];rfl
   ·rw[f];simp[better]
  |some w =>
   have tC:az (ak gLt (aa 6) _) [d,a1,some _,some _,some _,some _,some (pD (some c))] O=.ok _ O:=cT (aY rfl (G _) rfl)
   have u:bQ (az (iG (aa 6))) (bL (az (jE (dg (mG (aa 2)) (aa 4)))) (az (ak gLt (aa 6) (dg (mG (aa 2)) (aa 4))))) [d,a1,some (.ob p),some (.ob q),some (dN n),some (.bl b),some (pD (some c))] O=.ok (decide (c<w)) O:=by
    rw[qw,E,aO,lB,tB];exact tC
   by_cases x:c<w
   ·rw[zu x] at u;rw[dG u,f];simp[better,x]
   ·rw[zk x] at u;rw[cI u];simp[better,x]
def fnl(fin:Nd->Bool)(L:Nd->Option Int)(n:Nd):Option Int:=if fin n=true then some 0 else L n
def QqB     (b:fin n=true->L n=none)(hv:v=ini fin n\/v=fnl fin L n):(if better v (L n)=true then L n else v)=fnl fin L n:=by
 unfold fnl ini at *
 cases h:fin n with
 |true =>
  have:=b h
  rw[this];rw[h] at hv
  rcases hv with rfl | rfl<;>rfl
 |false =>
  rw[h] at hv
  rcases hv with rfl | rfl
  ·cases L n<;>rfl
  ·simp only[Bool.false_eq_true,if_false]
   split<;>rfl
def Qoo    (b:fin n=true->L n=none):better (fnl fin L n) (L n)=false:=by
 unfold fnl
 cases h:fin n with
 |true =>
  rw[b h];rfl
 |false =>
  cases L n with
  | none
  |some c=>simp[better]
theorem Kz(T:Trl t fs N nodes mv fin){a:Nat}(ha:a<=N){base:Tb}(hb:∀n∈nodes a,∀m∈mv n,(lk base m.other).isSome=true)(st:Nd->Option Int)(R:∀n∈nodes a,st n=ini fin n\/st n=fnl fin (λn=>lc base (mv n)) n)(G a1:Option D):
  ∀(rest:List Nd) (O:au) (c:Tb) (b:Bool) (J F:Option D),(∀n∈rest,n∈nodes a)->rest.Nodup->O[p]?=some (.dn (tab c))->O[q]?=some (.nf (cC mv (nodes a)))->p≠q->(∀m,m∉nodes a->lk c m=lk base m)->(∀n∈rest,lk c n=some (st n))->c.length<1000000 ->
  ∃x d C y,bB (mgN 4) B_r (rest.map dN) [G,a1,some (.ob p),some (.ob q),J,some (.bl b),F] O=.nx [G,a1,some (.ob p),some (.ob q),C,some (.bl (b || rest.any λn=>better (st n) (lc base (mv n)))),y] x/\x[p]?=some (.dn (tab d))/\(∀j,j≠p->x[j]?=O[j]?)/\(∀m,lk d m=if m∈rest then some (fnl fin (λn=>lc base (mv n)) m) else lk c m)/\d.length<=c.length
 | [],O,c,b,J,F,_,_,hp,_,_,_,_,_=>⟨O,c,J,F,by simp[bB],hp,λ_ _=>rfl,λm=>by simp,zc _⟩
 |n::rest,O,c,b,J,F,hr,hd,hp,hq,hpq,hc,hs,hl=>by
  have P:=hr n ze;have hd':=List.nodup_cons.mp hd
  have U:∀m∈mv n,m.other∉nodes a:=λm u z=>by
   obtain⟨b,b1,b2,b3⟩:=T.fw a n ha P m u
   have:=T.sp a b _ z b3
   omega
  have eL:lc c (mv n)=lc base (mv n):=Ku λm u=>hc _ (U m u)
  have u:∀m∈mv n,(lk c m.other).isSome=true:=λm u=>by rw[hc _ (U m u)];exact hb n P m u
  have eb:=Qzr P hp hq (hs n ze) u (T.ml n) hl b G a1 F;rw[eL] at eb;have X:=QqB (L:=λn=>lc base (mv n)) (λh=>by show lc base (mv n)=none;rw[T.fe n h];rfl) (R n P)
  have I:(lk c n).isSome=true:=by rw[hs n ze];rfl
  have go:∀(Q:au) (f:Tb),Q[p]?=some (.dn (tab f))->(∀j,j≠p->Q[j]?=O[j]?)->(∀m,lk f m=if m=n then some (fnl fin (λn=>lc base (mv n)) n) else lk c m)->f.length<=c.length->(if better (st n) (lc base (mv n))=true then O.set p (.dn (tab (put c n (lc base (mv n))))) else O)=Q ->
    ∃x d C y,bB (mgN 4) B_r ((n::rest).map dN) [G,a1,some (.ob p),some (.ob q),J,some (.bl b),F] O=.nx [G,a1,some (.ob p),some (.ob q),C,some (.bl (b || (n::rest).any λn=>better (st n) (lc base (mv n)))),y] x/\x[p]?=some (.dn (tab d))/\(∀j,j≠p->x[j]?=O[j]?)/\(∀m,lk d m=if m∈n::rest then some (fnl fin (λn=>lc base (mv n)) m) else lk c m)/\d.length<=c.length:=λQ f k1 Z Y k4 k5=>by
   obtain⟨x,d,C,y,e,g1,g2,g3,g4⟩:=Kz T ha hb st R G a1 rest Q f (b || better (st n) (lc base (mv n))) (some (dN n)) (some (pD (lc base (mv n)))) (λm u=>hr m (zp _ u)) hd'.2 k1 ((Z q (Ne.symm hpq)).trans hq) hpq (λm u=>by
     rw[Y m,if_neg (λz:m=n=>u (by rw[z];exact P))]
     exact hc m u) (λm u=>by
     rw[Y m,if_neg (λz:m=n=>hd'.1 (by rw[<-z];exact u))]
     exact hs m (zp _ u)) (by omega)
   refine⟨x,d,C,y,?_,g1,λj W=>(g2 j W).trans (Z j W),λm=>?_,by omega⟩
   ·rw[zg];unfold bB;rw[mg_n];dsimp only
    show(match B_r [G,a1,some (.ob p),some (.ob q),some (dN n),some (.bl b),F] O with
     | .nx ρ' x=>bB _ _ (rest.map dN) ρ' x | .ct ρ' x=>bB _ _ (rest.map dN) ρ' x | .bk ρ' x=>Fl.nx ρ' x | r=>r)=_
    rw[eb,k5];rw[List.any_cons,<-Bool.or_assoc];exact e
   ·rw[g3 m,Y m]
    by_cases E:m=n
    ·subst E;simp[hd'.1]
    ·simp[E]
  cases hbt:better (st n) (lc base (mv n)) with
  |true =>
   rw[hbt] at X;refine go (O.set p (.dn (tab (put c n (lc base (mv n)))))) (put c n (lc base (mv n))) (rF hp) (λj W=>by rw[zh (Ne.symm W)]) (λm=>?_) (Nat.le_of_eq (Qxn I)) (by rw[hbt];rfl);rw[Kl,<-X];rfl
  |false =>
   rw[hbt] at X;refine go O c hp (λ_ _=>rfl) (λm=>?_) (zc _) (by rw[hbt];rfl)
   split
   ·rename_i E;rw[E,<-X];exact hs n ze
   ·rfl
end
def B_n:MS:=(aq (aB 5 (mC (.bl false)))
  (qm 3 (cA (nR (aa 3)) (mgN 4) B_r)))
def KD(T:Trl t fs N nodes mv fin)  (ha:a<=N)  (hb:∀n∈nodes a,∀m∈mv n,(lk base m.other).isSome=true)(st:Nd->Option Int)(I:∀n∈nodes a,st n=ini fin n\/st n=fnl fin (λn=>lc base (mv n)) n)(u a1 C W y:Option D)
  (Y:O[p]?=some (.dn (tab cur))) (G:O[q]?=some (.dn (cC mv (nodes a)))) (f:p≠q) (Q:∀m,m∉nodes a->lk cur m=lk base m) (hs:∀n∈nodes a,lk cur n=some (st n)) (hl:cur.length<1000000):
  ∃x b d c,B_n [u,a1,some (.ob p),some (.ob q),C,W,y] O=.nx [u,a1,some (.ob p),some (.ob q),d,some (.bl ((nodes a).any λn=>better (st n) (lc base (mv n)))),c] x/\x[p]?=some (.dn (tab b))/\x[q]?=some (.dn (cC mv (nodes a)))/\(∀j,j≠p->j≠q->x[j]?=O[j]?)/\(∀m,m∉nodes a->lk b m=lk base m)/\(∀n∈nodes a,lk b n=some (fnl fin (λn=>lc base (mv n)) n))/\b.length<=cur.length:=by
 have F:(O.set q _)[q]?=some (.nf (cC mv (nodes a))):=rF G
 have J:(O.set q (.nf (cC mv (nodes a))))[p]?=some (.dn (tab cur)):=by rw[zh (Ne.symm f)];exact Y
 obtain⟨x,b,d,c,e,g1,U,R,g4⟩:=Kz T ha hb st I u a1 _ _ _ _ C y (λn h=>h) (T.nd a) J F f Q hs hl;rw[Bool.false_or] at e;have E :=(U q (Ne.symm f)).trans F;refine⟨x.set q _,b,d,c,?_,?_,rF E,λj X L=>?_,λm P=>?_,λn Z=>?_,g4⟩
 ·have ek:nR (aa 3) [u,a1,some (.ob p),some (.ob q),C,some (.bl false),y] O=.ok ((nodes a).map dN) (O.set q (.nf (cC mv (nodes a)))):=by
   unfold nR;rw[show aa 3 _ O=.ok _ O from rfl]
   dsimp
   rw[G]
   dsimp
   rw[QqZ]
  have ef:cA (nR (aa 3)) (mgN 4) B_r [u,a1,some (.ob p),some (.ob q),C,some (.bl false),y] O=.nx [u,a1,some (.ob p),some (.ob q),d,some (.bl ((nodes a).any λn=>better (st n) (lc base (mv n)))),c] x:=by
   rw[n8,ek,oh,e]
  show qm 3 _ [u,a1,some _,some (.ob q),C,some _,y] O=_;show(match O[q]? with | some (.dn _)=>_ | _=>Fl.no)=_;rw[G];rw[ef]
  dsimp
  rw[E]
 ·rw[zh (Ne.symm f)];exact g1
 ·rw[zh (Ne.symm L),U j X,zh (Ne.symm L)]
 ·rw[R,if_neg P];exact Q m P
 ·rw[R,if_pos Z]
def vL      (h:t ρ O=.ok true O)(hb:b ρ O=.nx ρ2 c):dh t b (k+1) ρ O=dh t b k ρ2 c:=by
 show(match t ρ O with | .ok true O1=>(match b ρ O1 with | .nx _ c=>dh t b k _ c | .ct _ c=>dh t b k _ c | .bk _ c=>Fl.nx _ c | r=>r) | .ok false O1=>.nx ρ O1 | .ex x O'=>.ex x O' | .no=>.no)=_;rw[h]
 dsimp
 rw[hb]
def By      (h:t ρ O=.ok false O):dh t b (k+1) ρ O=.nx ρ O:=by
 show(match t ρ O with | .ok true O1=>(match b ρ O1 with | .nx _ O2=>dh t b k _ O2 | .ct _ O2=>dh t b k _ O2 | .bk _ O2=>Fl.nx _ O2 | r=>r) | .ok false O1=>.nx ρ O1 | .ex x O'=>.ex x O' | .no=>.no)=_;rw[h]
def Qwn(T:Trl t fs N nodes mv fin)  (L:a<=N)   (ht:O[t]?=some (.ins "Leaps" fs))(hp:O[p]?=some (.dn (tab cur)))(hb:∀n∈nodes a,∀m∈mv n,(lk cur m.other).isSome=true)(hl:cur.length<900000):
  ∃c b,qT [.ob t,.int a,.ob p] O=.ok .non c/\c[p]?=some (.dn (tab b))/\(∀(j:Nat) (x:Ob),j≠p->O[j]?=some x->c[j]?=some x)/\(∀m,m∉nodes a->lk b m=lk cur m)/\(∀n∈nodes a,lk b n=some (fnl fin (λn=>lc cur (mv n)) n))/\b.length<=cur.length+10:=by
 have hln:=T.ln a;have E:=(zt.mp hp).1;have W:=(zt.mp ht).1;have q :=zq E
 have f:(O++[Ob.dn []])[t]?=some (.ins "Leaps" fs):=by rw[zD W];exact ht
 have Y:(O++[Ob.dn []])[p]?=some (.dn (tab cur)):=by rw[zD E];exact hp
 have X:(O++[Ob.dn []])[O.length]?=some (.dn (cC mv [])):=by simp[cC]
 obtain⟨Q,cur1,R,e1,f1,f2,f3,f4,f5⟩:=Ky T L q none none (nodes a) [] _ cur none (λn h=>h) (T.nd a) f Y X (by omega) (by simp;omega)
 have hf:∀n,fin n=true->lc cur (mv n)=none:=λn h=>by rw[T.fe n h];rfl
 obtain⟨O2,J,C,y,P,g1,g2,g3,g4,g5,g6⟩:=KD T L hb (ini fin) (λn _=>.inl rfl) _ _ R _ none f1 f2 q (λm hm=>by rw[f4 m,if_neg hm]) (λn hn=>by rw[f4 n,if_pos hn]) (by omega);obtain⟨O3,I,G,F,e3,k1,k2,k3,k4,k5,k6⟩:=KD T L hb _ (λn _=>.inr rfl) _ _ C _ y g1 g2 q g4 g5 (by omega)
 have z3:((nodes a).any λn=>better (fnl fin (λn=>lc cur (mv n)) n) (lc cur (mv n)))=false:=by
  rw[List.any_eq_false];intro n _;rw[Qoo (hf n)];exact zv
 rw[z3] at e3;have hnew:uv [none,none,none,none] O=.ok _ _:=rfl;have s2:(bF (aN "Leaps" "nodes_at" _ (mG (aa 0)) (aj (aa 1) ao))) [some (.ob t),some (.int a),some (.ob p),some (.ob O.length),none,none,none] _=.ok _ _:=eZ ((dz rfl f T.u1 (ma1 rfl)).trans (T.na _ a f L))
 have s3:cA (bF (aN "Leaps" "nodes_at" mK (mG (aa 0)) (aj (aa 1) ao))) (mgN 4) B_1 [some (.ob t),some (.int a),some (.ob p),some (.ob O.length),none,none,none] (O++[Ob.dn []])=.nx [some (.ob t),some (.int a),some (.ob p),some (.ob O.length),R,none,none] Q:=by
  rw[n8,s2,oh,e1]
 have u:∀(j:Nat) (x:Ob),j≠p->O[j]?=some x->Q[j]?=some x:=λj x d hx=>by
  have:=(zt.mp hx).1
  rw[f3 j d (by omega),zD this];exact hx
 have U:∀(j:Nat) (x:Ob),O[j]?=some x->j≠O.length:=λj x hx=>zq (zt.mp hx).1
 have fin':∀(c:au) (b:Tb) (x4 Z:Option D),dh _ B_n 10 _ Q=.nx [some (.ob t),some (.int a),some (.ob p),some (.ob O.length),x4,some (.bl false),Z] c->c[p]?=some _->(∀(j:Nat) (x:Ob),j≠p->O[j]?=some x->c[j]?=some x)->(∀m,m∉nodes a->lk b m=lk cur m)->(∀n∈nodes a,lk b n=some _)->b.length<=cur.length+10 ->
   ∃c b,qT [.ob t,.int a,.ob p] O=.ok .non c/\c[p]?=some (.dn (tab b))/\(∀(j:Nat) (x:Ob),j≠p->O[j]?=some x->c[j]?=some x)/\(∀m,m∉nodes a->lk b m=lk cur m)/\(∀n∈nodes a,lk b n=some (fnl fin (λn=>lc cur (mv n)) n))/\b.length<=cur.length+10:=λc b x4 Z hw h1 h2 h3 h4 h5=>by
  refine⟨c,b,?_,h1,h2,h3,h4,h5⟩;unfold B_1 at s3;unfold B_n B_r at hw;show bu (JM [some (.ob t),some (.int a),some (.ob p),none,none,none,none] O)=_;show bu (aq _ _ [some (.ob t),some (.int a),some (.ob p),some _,none,none,none] _)=_;rw[sq s3];show bu (gO 10 _ _ [some (.ob t),some (.int a),some (.ob p),some _,R,some (.bl true),none] Q)=_;unfold gO;rw[hw];rfl
 cases hb1:(nodes a).any _ with
 |true =>
  rw[hb1] at P;refine fin' O3 I G F ?_ k1 (λj x d hx=>by rw[k3 j d (U j x hx),g3 j d (U j x hx)];exact u j x d hx) k4 k5 (by omega);rw[vL rfl P,vL rfl e3,By rfl]
 |false =>
  rw[hb1] at P;refine fin' O2 J C y ?_ g1 (λj x d hx=>by rw[g3 j d (U j x hx)];exact u j x d hx) g4 g5 (by omega);rw[vL rfl P,By rfl]
theorem KH{α:Type}{g:MG}{t:L2.M Bool}{m:L2.M D}(c:aM->Prop)(p:α->Bool)(f:α->D):∀(xs:List α) (ρ:aM) (O:au) (b:List D),c ρ->(∀x∈xs,∀ρ,c ρ->∃ρ1,g (f x) ρ=some ρ1/\c ρ1/\t ρ1 O=.ok (p x) O/\m ρ1 O=.ok (f x) O)->cj g t m (xs.map f) ρ O b=.ok (b++(xs.filter p).map f) O
 | [],ρ,O,b,_,_=>by simp
 |x::xs,ρ,O,b,h,hs=>by
  obtain⟨ρ1,C,h1,y,u⟩:=hs x ze ρ h
  have j:=λb=>KH c p f xs _ O b h1 λE d=>hs E (zp _ d)
  rw[zg];unfold cj;rw[C]
  dsimp
  rw[y]
  cases q:p x with
  |true =>
   dsimp
   rw[u]
   dsimp
   rw[j,List.filter_cons,q];simp
  |false =>
   dsimp
   rw[j,List.filter_cons,q];simp
def Qug(b:Nat):jL (((b+1:Nat):Int) - 1) (b+1)=.int (b:Int)::jL ((b:Int) - 1) b:=by
 unfold jL;rw[List.range_succ_eq_map,zg,zR];congr 1
 ·congr 1;omega
 ·refine jd λi _=>?_
  show D.int _=D.int _;congr 1;omega
def Pri(N:Nat)(nodes:Nat->List Nd)(f:Nd->List M3)(fin:Nd->Bool)(b:Nat)(d:Tb):Prop:=∀c,b<=c->c<=N->∀n∈nodes c,lk d n=some (fnl fin (λn=>lc d (f n)) n)
def B_p:MS:=(fC (aC qT (aj (aa 0) (aj (aa 2) (aj (aa 1) ao)))))
theorem KJ(T:Trl t fs N nodes mv fin):∀(b:Nat) (O:au) (f:Tb) (F:Option D),b<=N+1->O[t]?=some (.ins "Leaps" fs)->O[p]?=some (.dn (tab f))->Pri N nodes mv fin b f->f.length+10 * b<=800000 ->
  ∃u q y,bB (mgN 2) B_p (jL ((b:Int) - 1) b) [some (.ob t),some (.ob p),F] O=.nx [some (.ob t),some (.ob p),y] u/\u[p]?=some (.dn (tab q))/\(∀(j:Nat) (x:Ob),j≠p->O[j]?=some x->u[j]?=some x)/\Pri N nodes mv fin 0 q
 | 0,O,f,F,_,_,hp,hP,_=>⟨O,f,F,rfl,hp,λ_ _ _ h=>h,hP⟩
 |a+1,O,f,F,hb,ht,hp,hP,hl=>by
  have U:a<=N:=by omega
  have J:∀n∈nodes a,∀m∈mv n,(lk _ _).isSome=true:=λn C m I=>by
   obtain⟨c,c1,G,c3⟩:=T.fw a n U C m I;rw[hP c (by omega) G _ c3];rfl
  obtain⟨Y,E,e,g1,X,W,g4,g5⟩:=Qwn T U ht hp J (by omega)
  have Z :=gb ht hp λz=>nomatch z
  have L:Pri N _ mv _ a _:=λc c1 G n C=>by
   have P :=λm I=>W _ λz=>by
    obtain⟨d,d1,d2,d3⟩:=T.fw c n G C m I
    have:=T.sp a d _ z d3
    omega
   have eL :=Ku P
   have eF:fnl fin (λn=>lc E (mv n)) n=fnl fin (λn=>lc f (mv n)) n:=by
    show(if fin n=true then some 0 else lc _ _)=_;rw[eL];rfl
   rw[eF]
   by_cases R:c=a
   ·subst R;exact g4 n C
   ·rw[W n λz=>R (T.sp c a n C z)];exact hP c (by omega) G n C
  obtain⟨u,q,y,e2,k1,k2,k3⟩:=KJ T a Y _ _ (by omega) (X t _ Z ht) g1 L (by omega);refine⟨u,q,y,?_,k1,λj x Q hx=>k2 j x Q (X j x Q hx),k3⟩;rw[Qug]
  have eb:B_p [some (.ob t),some (.ob p),some (.int a)] O=.nx [some (.ob t),some (.ob p),some (.int a)] Y:=by
   unfold B_p;rw[qy,bA (maS rfl (maS rfl (ma1 rfl))),e,uE]
  show(match B_p [some _,some _,some _] O with
   | .nx ρ' u=>bB _ _ _ _ u | .ct ρ' u=>bB _ _ _ _ u | .bk ρ' u=>Fl.nx _ u | r=>r)=_
  rw[eb];exact e2
def Quf(T:Trl t fs N J L fin)  (q:O[t]?=some (.ins "Leaps" fs)):∃f b,Af [.ob t] O=.ok (.ob O.length) f/\f[O.length]?=some (.dn (tab b))/\(∀(j:Nat) (x:Ob),O[j]?=some x->f[j]?=some x)/\Pri N J L fin 0 b:=by
 have hN:=T.hN;have m:=(zt.mp q).1
 have d:(O++[Ob.dn []])[t]?=some (.ins "Leaps" fs):=by rw[zD m];exact q
 obtain⟨f,b,G,e,C,y,u⟩:=KJ (p:=O.length) T _ _ [] _ (zc _) d (by simp[tab]) (λc F I=>absurd F (by omega)) (by simp;omega);refine⟨f,b,?_,C,λj x hx=>?_,u⟩
 ·have E:t8 (aj (aN "Leaps" "last_at" jU (mG (aa 0)) ao) (aj (mUn kJ (mC (.int 1))) (aj (mUn kJ (mC (.int 1))) ao))) [some (.ob t),some (.ob O.length),none] (O++[Ob.dn []])=.ok (jL ((N+1:) - 1) (N+1)) (O++[Ob.dn []]):=by
   unfold t8;rw[maS ((dz rfl d T.u4 rfl).trans (T.la _ d)) (maS rfl (ma1 rfl))];dsimp only[aO];rw[if_pos ⟨rfl,by omega⟩];rw[show((N:Int) - -1).toNat=N+1 by omega,show((N+1:) - 1)=(N:Int) by omega]
  unfold B_p at e;show bu (aq _ _ [some _,some _,none] _)=_;rw[cM,n8,E,oh,e];rfl
 ·have:=(zt.mp hx).1
  exact y j x (by omega) (by rw[zD this];exact hx)
theorem BJ:∀(l:List Int) (b:Option Int) (c:Int),mdI b l=some c->b=some c\/c∈l
 | [],b,c,h=>.inl (by cases b<;>exact h)
 |n::r,none,c,h=>by
  rcases BJ r _ c h with h | h
  ·exact .inr (by rw[zC h];exact ze)
  ·exact .inr (zp _ h)
 |n::r,some m,c,h=>by
  rcases BJ r _ c h with h | h
  ·split at h
   ·exact .inr (by rw[zC h];exact ze)
   ·exact .inl h
  ·exact .inr (zp _ h)
theorem KQ:∀(l:List Int) (b:Int),∃c,mdI (some b) l=some c
 | [],b=>⟨b,rfl⟩
 |n::r,b=>KQ r _
def QxT  (h:l≠[]):∃c,mdI none l=some c:=by
 cases l with
 |nil=>exact absurd rfl h
 |cons n r=>exact KQ r n
def Qzv(x y:Option Int):gEq (pD x) (pD y)=some (.bl (decide (x=y))):=by
 cases x with
 |none=>cases y<;>rfl
 |some i =>
  cases y with
  |none=>rfl
  |some j =>
   show some _=_;congr 2;exact decide_eq_decide.mpr ⟨λh=>by rw[h],λh=>zC h⟩
theorem KR{α:Type}(f:α->Bool)(g:α->D)(h:α->Bool):∀(ms:List α) (m:α),ms.find? f=some m->((ms.filter f).map g)[0]?=some (g m)
 |x::ms,m,e=>by
  rw[List.find?_cons] at e
  cases hx:f x with
  |true =>
   rw[hx] at e;cases e;simp[hx]
  |false =>
   rw[hx] at e;rw[List.filter_cons,hx];exact KR f g h ms m e
def Qvv     (u:O[p]?=some (.dn (tab ps)))(y:∀m∈ms,(lk ps m.other).isSome=true)(G:ms.length<=1000)(d:lc ps ms=some c):
  ∃m,ms.find? (λm=>decide (co ps m=lc ps ms))=some m/\m∈ms/\co ps m=some c/\vh [.lst (ms.map d3),.ob p] O=.ok (d3 m) O:=by
 obtain⟨x,hx,f⟩:∃x∈ms,co ps x=some c:=by
  rcases BJ _ _ _ d with h | h
  ·cases h
  ·exact List.mem_filterMap.mp h
 obtain⟨m,b⟩:∃m,ms.find? (λm=>decide (co ps m=lc ps ms))=some m:=by
  cases e:ms.find? _ with
  |some m=>exact⟨m,rfl⟩
  |none =>
   have:=List.find?_eq_none.mp e x hx
   rw[f,d] at this;simp at this
 have j:=List.mem_of_find?_eq_some b
 have q:co ps m=some c:=by
  have:=List.find?_some b
  rw[<-d];exact jj this
 refine⟨m,b,j,q,?_⟩;have F:aC _ (aj (aa 0) (aj (aa 1) _)) [some _,some _,none] O=.ok _ O:=(bA (maS rfl (ma1 rfl))).trans (Kr u y G)
 have I:cj (mgN 0) (az (ak gEq (aC oK (aj (aa 0) (aj (aa 1) ao))) (aa 2))) (aa 0) (ms.map d3) [none,some (.ob p),some (pD (lc ps ms))] O []=.ok ((ms.filter λm=>decide (co ps m=lc ps ms)).map d3) O:=by
  rw[KH (λρ=>∃a,ρ=[a,some _,some _]) _ d3 ms _ _ _ ⟨none,rfl⟩ (by
   rintro m' hm' ρ ⟨a,rfl⟩
   exact⟨_,rfl,⟨_,rfl⟩,cT (aY ((bA (maS rfl (ma1 rfl))).trans (Ko u (y m' hm'))) rfl (by
    rw[show aW O _=pD (co ps m') by cases co ps m'<;>rfl,show aW O _=pD (lc ps ms) by cases lc ps ms<;>rfl,Qzv])),rfl⟩)]
  rw[zO]
 have E:b7 (bF (aa 0)) 1 [1,2] _ _ _ [some _,some _,some _] O=.ok _ O:=lJ (eZ rfl) (by rw[zd];omega) rfl I
 have C:ak gIx _ (mC (.int 0)) _ O=.ok _ O:=aY E m_c (by
  exact qG.trans (KR _ d3 (λ_=>true) ms m b))
 show bu (Ag [some _,some _,none] O)=_;unfold Ag;rw[sq (bw F)];exact congrArg (λr=>bu (lD r)) C
def Wy(ps:Tb)(b:Nd->List M3)(fin:Nd->Bool):Nd->List M3->Prop
 |n,[]=>fin n=true
 |n,m::ms=>fin n=false/\m∈b n/\(b n).find? (λm=>decide (co ps m=lc ps (b n)))=some m/\Wy ps b fin m.other ms
def B_y:MS:=(aq (aB 5 (aC vh (aj (aN "Leaps" "moves_from" lG (mG (aa 0)) (aj (aa 2) ao)) (aj (aa 1) ao))))
  (aq (dR 4 (ak gIx (aa 5) (mC (.int 1))))
  (aB 2 (ak gIx (aa 5) (mC (.int 2))))))
def Qzi{fs:List (Str×D)}{N:Nat}{nodes:Nat->List Nd}{E:Nd->List M3}{fin:Nd->Bool}{p:Nat}(T:Trl t fs N nodes E fin){ps:Tb}(Q:Pri N nodes E fin 0 ps){O:au}(F:O[t]?=some (.ins "Leaps" fs))(X:O[p]?=some (.dn (tab ps)))(u:Option D):∀(k a:Nat) (n:Nd) (c:Int) (nm:List D) (f:Nat) (q:Option D),a+k=N->n∈nodes a->lk ps n=some (some c)->k<f->nm.length+k<1000000 ->
  ∃ms G d,dh (bY (bj (aN "Leaps" "is_end" jV (mG (aa 0)) (aj (aa 2) ao)))) B_y f [some (.ob t),some (.ob p),some (dN n),u,some (.lst nm),q] O=.nx [some (.ob t),some (.ob p),some (dN G),u,some (.lst (nm++ms.map λm=>.str m.name)),d] O/\Wy ps E fin n ms/\ms.length<=k:=by
 intro k
 induction k using Nat.strongRecOn with
 | _ k ih =>
  intro a n c nm f q hak x Y hf hl;obtain⟨J,rfl⟩:∃J,f=J+1:=⟨f - 1,by omega⟩
  have te:bY (bj (aN "Leaps" "is_end" jV (mG (aa 0)) (aj (aa 2) ao))) [some (.ob t),some (.ob p),some (dN n),u,some (.lst nm),q] O=.ok (!fin n) O:=by
   rw[jN,iR,(dz rfl F T.u3 (ma1 rfl)).trans (T.ie O a n F (by omega) x),aO,lu,lA,nY,aO]
  cases hfin:fin n with
  |true =>
   rw[hfin] at te;exact⟨[],n,q,by rw[By te];simp,hfin,Nat.zero_le _⟩
  |false =>
   rw[hfin] at te
   have Z :=by
    have:=Q a (Nat.zero_le _) (by omega) n x
    rw[Y] at this;have h2 :=zC this;unfold fnl at h2;rw[hfin] at h2;exact h2.symm
   have I:∀m∈E n,(lk ps m.other).isSome=true:=λm I=>by
    obtain⟨b,b1,R,L⟩:=T.fw a n (by omega) x m I;rw[Q b (Nat.zero_le _) R _ L];rfl
   obtain⟨m,e1,C,j,e2⟩:=Qvv X I (T.ml n) Z;obtain⟨b,b1,R,L⟩:=T.fw a n (by omega) x m C
   obtain⟨y,P⟩:∃y,lk ps m.other=some (some y):=by
    unfold co at j;split at j
    ·rename_i y e;exact⟨y,e⟩
    ·cases j
   have W:aC _ (aj (aN "Leaps" _ _ (mG (aa 0)) (aj (aa 2) ao)) (aj (aa 1) ao)) [some (.ob t),some (.ob p),some (dN n),u,some (.lst nm),q] O=.ok (d3 m) O:=(bA (maS ((dz rfl F T.u2 (ma1 rfl)).trans (T.mf O a n F (by omega) x)) (ma1 rfl))).trans e2
   have eb:B_y [some (.ob t),some (.ob p),some (dN n),u,some (.lst nm),q] O=.nx [some (.ob t),some (.ob p),some (dN m.other),u,some (.lst (nm++[.str m.name])),some (d3 m)] O:=by
    unfold B_y;rw[sq (bw W)];rw[sq (Bm (aY rfl rfl rfl) rfl (by omega))];rfl
   obtain⟨ms,G,d,e3,U,l3⟩:=ih (N - b) (by omega) b m.other y (nm++[.str m.name]) J _ (by omega) L P (by omega) (by rw[zf,zM];omega);refine⟨m::ms,G,d,?_,⟨hfin,C,e1,U⟩,by rw[zz];omega⟩;rw[vL te eb,e3,zH];rfl
def QuG{fs:List (Str×D)}{N:Nat}{nodes:Nat->List Nd}{d:Nd->List M3}{fin:Nd->Bool}(T:Trl t fs N nodes d fin)(j:∀(a:Nat) (n:Nd),a<=N->n∈nodes a->fin n=false->d n≠[]){ps:Tb}(C:Pri N nodes d fin 0 ps):∀(k a:Nat) (n:Nd),a+k=N->n∈nodes a->∃c,lk ps n=some (some c):=by
 intro k
 induction k using Nat.strongRecOn with
 | _ k ih =>
  intro a n G f;have h1:=C a (Nat.zero_le _) (by omega) n f
  cases hfin:fin n with
  |true =>
   refine⟨0,?_⟩;rw[h1];unfold fnl;rw[hfin,if_pos rfl]
  |false =>
   have h2:lk ps n=some (lc ps (d n)):=by
    rw[h1];unfold fnl;rw[hfin,if_neg zv]
   obtain⟨m,x⟩:=List.exists_mem_of_ne_nil _ (j a n (by omega) f hfin);obtain⟨b,J,I,F⟩:=T.fw a n (by omega) f m x;obtain⟨c,y⟩:=ih (N - b) (by omega) b _ (by omega) F
   have q:co ps m=some (m.cost+c):=by
    unfold co;rw[y]
   obtain⟨E,u⟩:=QxT (l:=(d n).filterMap _) λz=>by
    have:=List.mem_filterMap.mpr ⟨m,x,q⟩
    rw[z] at this;cases this
   exact⟨E,by rw[h2];exact congrArg _ u⟩
def QAX(T:Trl t fs N W X fin)(q:∀(a:Nat) (n:Nd),a<=N->n∈W a->fin n=false->X n≠[])(U:N<300)  (u:O[t]?=some (.ins "Leaps" fs)):
  ∃b ps c ms,Aj [.ob t] O=.ok (.tup [.int c,.lst (ms.map λm=>.str m.name)]) b/\(∀(j:Nat) (x:Ob),O[j]?=some x->b[j]?=some x)/\Pri N W X fin 0 ps/\lk ps (0,(46,46))=some (some c)/\Wy ps X fin (0,(46,46)) ms:=by
 obtain⟨b,ps,L,C,y,f⟩:=Quf T u;obtain⟨c,d⟩:=QuG T q f N 0 _ (jm _) T.f0;have ht':=y t _ u;obtain⟨ms,Q,P,E,F,R⟩:=Qzi T f ht' C _ N 0 _ c [] _ _ (jm _) T.f0 d (by omega) (by simp;omega);refine⟨b,ps,c,ms,?_,y,f,d,F⟩;have J:aC _ (aj (aa 0) _) [some _,none,none,none,none,none] O=.ok _ b:=(bA (ma1 rfl)).trans L;have I:aN _ _ _ (mG (aa 0)) ao [some (.ob t),some (.ob O.length),none,none,none,none] b=.ok _ b:=(dz rfl ht' T.u5 rfl).trans (T.fi b ht');have G:dg (aa 1) (aa 2) [some (.ob t),some _,some _,none,none,none] b=.ok _ b:=Bx rfl C rfl d
 unfold B_y at E;show bu (Ai [some _,none,none,none,none,none] O)=_;unfold Ai;rw[sq (Kc J)];show bu (aq _ _ [some _,some _,none,none,none,none] b)=_;rw[sq (bw I)];show bu (aq _ _ [some _,some _,some _,none,none,none] b)=_;rw[sq (bw G)];show bu (aq _ _ [some _,some _,some _,some _,some _,none] b)=_;unfold gO;rw[sq E];rfl
def rG     (h:m ρ O=.ok (.str t) O)(hz:t.length<=1000000):aK aP (aj m ao) ρ O=.ok (.int (t.length:Int)) O:=iW (ma1 h) (by
 show aP [D.str t]=_
 rw[HW,if_pos hz])
def jZ     (d:a ρ O=.ok (.str x) O)(hb:b ρ O=.ok (.str y) O)(c:x.length+y.length<=1000000):ak aJ a b ρ O=.ok (.str (x++y)) O:=aY d hb (by rw[lz,lz,HF,if_pos c])
def mi(p:Nat×Nat)(c:Nat):List Nat:=if p.1=c then[] else[91,c,93]
noncomputable def mg'(p:Nat×Nat)(c:Nat):List Nat:=if p.2=c then[] else[91,47,c,93]
def mbS(p q:Nat×Nat):List Nat:=mi p q.1++mg' p q.2
def mbA(q:Nat×Nat):List Nat:=[91,93]++mi (46,46) q.1++mg' (46,46) q.2
def mb(p q:Nat×Nat):List Nat:=if(mbA q).length<(mbS p q).length then mbA q else mbS p q
def vM(p:Nat×Nat)(c:Nat):(mi p c).length<=3:=by unfold mi;split<;>simp
def vN(p:Nat×Nat)(c:Nat):(mg' p c).length<=4:=by unfold mg';split<;>simp
def Qwf(p q:Nat×Nat):(mbS p q).length<=7:=by
 unfold mbS;rw[zf]
 have:=vM p q.1
 have:=vN p q.2
 omega
def KY(q:Nat×Nat):(mbA q).length<=9:=by
 unfold mbA;rw[zf,zf]
 have:=vM (46,46) q.1
 have:=vN (46,46) q.2
 show 2+_+_<=9;omega
def KZ(p q:Nat×Nat):(mb p q).length<=9:=by
 unfold mb
 have:=KY q
 split<;>omega
def K1(p:Nat×Nat)(c:Nat)(O:au):mL [pr p,.str [105,110,107],st c] O=.ok (.str (mi p c)) O:=by
 have b:aB 3 (mIf (az (ak gEq (aa 1) (mC (.str [105,110,107])))) (mC _) (mC (.int 1))) [some (pr p),some (.str [105,110,107]),some (st c),none] O=.nx [some _,some _,some _,some (.int 0)] O:=rfl;have t1:az (ak _ (ak gIx (aa 0) (aa 3)) (aa 2)) [some (pr p),some (.str [105,110,107]),some (st c),some (.int 0)] O=.ok _ O:=cT (aY rfl rfl (Bv _ _));show bu (qR [some _,some _,some _,none] O)=_;unfold qR mi;rw[sq b,dF,lC,t1]
 by_cases h:p.1=c
 ·rw[zu h,if_pos h];rfl
 ·rw[zk h,if_neg h];rfl
def K3(p:Nat×Nat)(c:Nat)(O:au):mL [pr p,.str [103,114,111,117,110,100],st c] O=.ok (.str (mg' p c)) O:=by
 have b:aB 3 (mIf (az (ak gEq (aa 1) (mC (.str [105,110,107])))) (mC (.int 0)) (mC (.int 1))) [some _,some (.str [103,114,111,117,110,100]),some (st c),none] O=.nx [some (pr p),some _,some _,some _] O:=rfl;have t1:az (ak _ (ak gIx (aa 0) (aa 3)) (aa 2)) [some (pr p),some (.str [103,114,111,117,110,100]),some (st c),some (.int 1)] O=.ok _ O:=cT (aY rfl rfl (Bv _ _));show bu (qR [some _,some _,some _,none] O)=_;unfold qR mg';rw[sq b,dF,lC,t1]
 by_cases h:p.2=c
 ·rw[zu h,if_pos h];rfl
 ·rw[zk h,if_neg h];rfl
def Qrd(p q:Nat×Nat)(O:au):vg [pr p,pr q] O=.ok (.str (mb p q)) O:=by
 have f:=Qwf p q;have j:=KY q;have l1:=vM p q.1;have d:=vN p q.2;have l3:=vM (46,46) q.1;have l4:=vN (46,46) q.2;have c:ak aJ (aC _ (aj (aa 0) (aj (mC _) (aj (ak gIx (aa 1) (mC (.int 0))) ao)))) (aC _ (aj (aa 0) (aj (mC _) (aj (ak gIx (aa 1) (mC (.int 1))) ao)))) [some _,some (pr q),none,none] O=.ok (.str (mbS p q)) O :=
  jZ ((bA (maS rfl (maS rfl (ma1 (aY rfl rfl rfl))))).trans (K1 p q.1 O)) ((bA (maS rfl (maS rfl (ma1 (aY rfl rfl rfl))))).trans (K3 p q.2 O)) (by omega)
 have b:ak aJ (ak aJ (aC _ (aj (mC (.str [112,108,97,105,110])) (aj (mC _) ao))) (aC _ (aj (mC (.tup [.str [46],.str [46]])) (aj (mC _) (aj (ak gIx (aa 1) (mC (.int 0))) ao))))) (aC _ (aj (mC (.tup [.str [46],.str [46]])) (aj (mC _) (aj (ak gIx (aa 1) (mC (.int 1))) ao)))) [some (pr p),some (pr q),some (.str (mbS p q)),none] O=.ok _ O :=
  jZ (jZ ((bA (maS rfl (ma1 rfl))).trans (QwV O)) ((bA (maS rfl (maS rfl (ma1 (aY rfl rfl rfl))))).trans (K1 (46,46) q.1 O)) (by show 2+_<=_;omega)) ((bA (maS rfl (maS rfl (ma1 (aY rfl rfl rfl))))).trans (K3 (46,46) q.2 O)) (by rw[zf];show 2+_+_<=_;omega)
 have t1:az (ak gLt (aK aP (aj (aa 3) ao)) (aK aP (aj (aa 2) ao))) [some (pr p),some (pr q),some (.str (mbS p q)),some (.str (mbA q))] O=.ok _ O:=J3 (rG rfl (by omega)) (rG rfl (by omega));show bu (Ac [some _,some (pr q),none,none] O)=_;unfold Ac mb;rw[sq (bw c)];show bu (aq _ _ [some (pr p),some (pr q),some _,none] O)=_;rw[sq (bw b)];show bu (aA _ [some (pr p),some (pr q),some _,some (.str (mbA q))] O)=_;rw[dF,lC,t1]
 by_cases h:(mbA q).length<(mbS p q).length
 ·rw[zu (by omega),if_pos h];rfl
 ·rw[zk (by omega),if_neg h];rfl
def lfs(l:List L3)(b:List Nat):List (Str×D):=[("look",.lst (l.map dK)),("inks",.lst (b.map st))]
def nds(l:List L3)(b:List Nat)(a:Nat):List Nd:=if a=0\/a=l.length+1 then[((a:Int),(46,46))] else match l[a - 1]? with
 |some x=>if x.1=32 then b.map λc=>((a:Int),(c,x.2.2)) else[((a:Int),(x.2.1,x.2.2))]
 |none=>[]
def sg(l:List L3)(a:Nat):List Nat:=match l[a]? with
 |some x=>sgn x.1
 |none=>[]
def lmv(l:List L3)(c:List Nat)(n:Nd):List M3:=if n.1=(l.length:Int)+1 then[] else(nds l c (n.1.toNat+1)).map λb=>⟨((mb n.2 b.2).length:Int),mb n.2 b.2++sg l n.1.toNat,b⟩
def vO(l:List L3)(n:Nd):Bool:=decide (n.1=(l.length:Int)+1)
def oW     (h:n∈nds l b a):n.1=(a:Int):=by
 unfold nds at h;split at h
 ·rw[zm.mp h]
 ·split at h
  ·split at h
   ·obtain⟨c,_,rfl⟩:=zA.mp h;rfl
   ·rw[zm.mp h]
  ·cases h
def QwY(c:Nat):(sgn c).length<=2:=by unfold sgn;split<;>simp
def K4(l:List L3)(a:Nat):(sg l a).length<=2:=by
 unfold sg
 split
 ·exact QwY _
 ·exact Nat.zero_le _
def vP(c:O[t]?=some (.ins "Leaps" (lfs l d))):jU [.ob t] O=.ok (.int ((l.length:Int)+1)) O:=by
 have h:aX ["Leaps"] "look" (aa 0) [some _] O=.ok _ O:=dw rfl c ze rfl;have b:=oR h;rw[zd] at b;show bu (Aa [some _] O)=_;unfold Aa;rw[dF,jW b rfl];rfl
def K5{l:List L3}{k:Nat}  (h:l[k]?=some x):gIx (.lst (l.map dK)) (.int (k:Int))=some (dK x):=by
 rw[HR,qG,zE,h];rfl
def K6{O:au}{t:Nat}(f:O[t]?=some (.ins "Leaps" (lfs l J)))(G:J.length<=100)  (I:a<=l.length+1):mK [.ob t,.int (a:Int)] O=.ok (.lst ((nds l J a).map dN)) O:=by
 have y:aN "Leaps" "last_at" _ (aa 0) ao [some (.ob t),some (.int (a:Int)),none] O=.ok _ O:=(dz rfl f rfl rfl).trans (vP f);have t1:az (ak gEq (aa 1) (mC (.int 0))) [some (.ob t),some (.int (a:Int)),none] O=.ok _ O:=mO rfl rfl;have t2:az (ak gEq (aa 1) _) _ O=.ok _ O:=mO rfl y;show bu (Ab [some (.ob t),some _,none] O)=_;unfold Ab nds
 by_cases h:a=0\/a=l.length+1
 ·have j:bL (az (ak gEq (aa 1) (mC (.int 0)))) (az (ak gEq (aa 1) (aN "Leaps" "last_at" jU (aa 0) ao))) [some (.ob t),some (.int (a:Int)),none] O=.ok true O:=by
   rw[lB,t1,aO]
   by_cases h0:a=0
   ·rw[zu (by omega),if_pos rfl]
   ·rw[zk (by omega),if_neg zv,t2,zu (by omega)]
  rw[if_pos h,cM,ifY j];rfl
 ·have j :=by
   rw[zk (by omega)] at t1;rw[zk (by omega)] at t2;exact Bp t1 t2
  rw[if_neg h,sq (ifN j)]
  have q:a - 1<l.length:=by omega
  have hx :=zw q
  generalize l[a - 1]=x at hx
  rw[hx];have E:aX ["Leaps"] "look" (aa 0) [some (.ob t),some (.int a),none] O=.ok _ O:=dw rfl f ze rfl
  have u:ak gIx _ (ak dO (aa 1) (mC (.int 1))) _ O=.ok (dK x) O:=aY E (J2 rfl rfl) (by
   rw[show(a:Int) - 1=((a - 1:Nat):Int) by omega]
   exact K5 hx)
  rw[sq (bw u)];show bu (aq _ _ [some (.ob t),some _,some (dK x)] O)=_;have d:az (ak gEq (ak gIx (aa 2) (mC (.int 0))) (mC (.str [32]))) [some (.ob t),some (.int a),some (dK x)] O=.ok _ O:=cT (aY rfl rfl (Bv _ _));dsimp only
  by_cases h3:x.1=32
  ·rw[zu h3] at d;have C:aX ["Leaps"] "inks" (aa 0) [some (.ob t),some (.int (a:Int)),some (dK x)] O=.ok _ O:=dw rfl f ze rfl
   have cl:=iU (g:=mgN 0) (t:=bN) (m:=aU (aj (mG (aa 1)) (aj (aU (aj (aa 0) (aj (ak gIx (aa 2) (mC (.int 2))) ao))) ao))) (λρ=>∃b,ρ=[b,some _,some (dK x)]) st _ J [none,some (.int (a:Int)),some (dK x)] O [] ⟨_,rfl⟩ (by
    rintro c _ ρ ⟨b,rfl⟩
    exact⟨_,rfl,⟨_,rfl⟩,rfl,rfl⟩)
   have F:=lJ (own:=1) (cap:=[1,2]) (eZ C) (by rw[zd];omega) rfl cl;rw[if_pos h3,cM,ifY d,dF,F,zR];rfl
  ·rw[zk h3] at d;rw[if_neg h3,sq (ifN d)];rfl
def vQ:MS:=(aq (aB 6 (aC vg (aj (ak gIx (aa 1) (mC (.int 1))) (aj (ak gIx (aa 5) (mC (.int 1))) ao))))
  (dR 4 (aU (aj (aK aP (aj (aa 6) ao)) (aj (ak aJ (aa 6) (aa 3)) (aj (aa 5) ao))))))
theorem K7(n:Nd)(s:List Nat)(hs:s.length<=2)(m a2:Option D):∀(bs:List Nd) (c:List D) (q j:Option D),c.length+bs.length<1000000->∃f d,bB (mgN 5) vQ (bs.map dN) [m,some (dN n),a2,some (.str s),some (.lst c),q,j] O=.nx [m,some (dN n),a2,some (.str s),some (.lst (c++bs.map λb=>d3 ⟨((mb n.2 b.2).length:Int),mb n.2 b.2++s,b⟩)),f,d] O
 | [],c,q,j,_=>⟨q,j,by rw[zX,zX,zJ];rfl⟩
 |b::bs,c,q,j,hl=>by
  rw[zz] at hl;have x:=KZ n.2 b.2;obtain⟨f,d,e⟩:=K7 n s hs m a2 bs (c++[d3 _]) _ _ (by rw[zf,zM];omega);refine⟨f,d,?_⟩
  have u:vQ [m,some (dN n),a2,some (.str s),some (.lst c),some (dN b),j] O=.nx [m,some (dN n),a2,some (.str s),some (.lst (c++[d3 ⟨(mb n.2 b.2).length,mb n.2 b.2++s,b⟩])),some (dN b),some (.str (mb n.2 b.2))] O:=by
   unfold vQ;rw[sq (bw ((bA (maS (aY rfl rfl rfl) (ma1 (aY rfl rfl rfl)))).trans (Qrd _ _ O)))];rw[Bm (Bl (maS (rG rfl (by omega)) (maS (jZ rfl rfl (by omega)) (ma1 rfl))) (show 3<=1000000 by decide)) rfl (by omega)];rfl
  rw[zg,jY rfl u,e,zH];rfl
def QvW(b:O[t]?=some (.ins "Leaps" (lfs l J)))(f:J.length<=100)  (I:a<=l.length+1)  (C:n∈nds l J a):lG [.ob t,dN n] O=.ok (.lst ((lmv l J n).map d3)) O:=by
 have h1:=oW C;have u:aB 2 (ak gIx (aa 1) (mC (.int 0))) [some (.ob t),some (dN n),none,none,none,none,none] O=.nx [some (.ob t),some (dN n),some (.int n.1),none,none,none,none] O:=rfl;have y:aN "Leaps" "last_at" _ (aa 0) ao [some (.ob t),some (dN n),some (.int n.1),none,none,none,none] O=.ok _ O:=(dz rfl b rfl rfl).trans (vP b);have t1:az (ak gEq (aa 2) _) _ O=.ok _ O:=mO rfl y;show bu (Ad [some (.ob t),some (dN n),none,none,none,none,none] O)=_;unfold Ad lmv;rw[sq u]
 by_cases h:n.1=(l.length:Int)+1
 ·rw[zu h] at t1;rw[if_pos h,cM,ifY t1];rfl
 ·rw[zk h] at t1;rw[if_neg h,sq (ifN t1)];have j:aX ["Leaps"] "look" (aa 0) [some (.ob t),some (dN n),some (.int n.1),none,none,none,none] O=.ok _ O:=dw (n:=t) rfl b ze rfl;have d:=oR j;rw[zd] at d
  have m:n.1.toNat=a:=by omega
  have q:mIf (az (ak gLt (aa 2) (aK aP (aj (aX ["Leaps"] "look" (aa 0)) ao)))) (aC jT (aj (mC (.str [115,105,103,110])) (aj (ak gIx (ak gIx (aX ["Leaps"] "look" (aa 0)) (aa 2)) (mC (.int 0))) ao))) (mC (.str [])) [some (.ob t),some (dN n),some (.int n.1),none,none,none,none] O=.ok (.str (sg l n.1.toNat)) O:=by
   rw[lC,J3 rfl d,aO,m];unfold sg
   by_cases c:a<l.length
   ·rw[zu (by omega),zw c];exact(bA (maS rfl (ma1 (aY (aY j rfl (by rw[h1];exact K5 (zw c))) rfl rfl)))).trans (QzD _ O)
   ·rw[zk (by omega),jr (by omega)];rfl
  rw[sq (bw q)];show bu (aq _ _ [some (.ob t),some (dN n),some (.int n.1),some _,none,none,none] O)=_;rw[sq (show aB 4 _ _ O=.nx [some (.ob t),some (dN n),some (.int n.1),some _,some (.lst []),none,none] O from rfl)]
  have x:aN "Leaps" "nodes_at" mK (aa 0) (aj (ak aJ (aa 2) (mC (.int 1))) ao) [some (.ob t),some (dN n),some (.int n.1),some (.str (sg l n.1.toNat)),some (.lst []),none,none] O=.ok (.lst ((nds l J (n.1.toNat+1)).map dN)) O:=by
   refine(dz rfl b rfl (ma1 ((jW rfl rfl).trans ?_))).trans (K6 b f (by omega));congr 2;omega
  have E:(nds l J (n.1.toNat+1)).length<=100:=by
   unfold nds
   split
   ·show 1<=100;decide
   ·split
    ·split
     ·rw[zd];exact f
     ·show 1<=100;decide
    ·exact Nat.zero_le _
  obtain⟨G,F,e⟩:=K7 (O:=O) n _ (K4 _ _) _ _ (nds l J (n.1.toNat+1)) [] none none (by rw[zW];omega);unfold vQ at e;rw[cM,n8,eZ x,oh,e,gH,zR];rfl
def Qxs(b:O[t]?=some (.ins "Leaps" (lfs l d)))(n:Nd):jV [.ob t,dN n] O=.ok (.bl (vO l n)) O:=by
 have c:aN _ "last_at" _ (aa 0) ao [some _,some (dN n)] O=.ok _ O:=(dz rfl b rfl rfl).trans (vP b);show bu (Ae [some _,some _] O)=_;unfold Ae;rw[dF,aY (aY rfl rfl rfl) c rfl];rfl
def K8(t:Nat)   (hl:l.length<=250)(hc:cs.length<=10)(hcn:cs.Nodup):Trl t (lfs l cs) (l.length+1) (nds l cs) (lmv l cs) (vO l) where
 na:=λO a ht ha=>K6 ht (by omega) ha
 mf:=λO a n ht ha hn=>QvW ht (by omega) ha hn
 ie:=λO a n ht _ _=>Qxs ht n
 la:=λO ht=>vP ht
 fi:=λO ht=>rfl
 f0:=by
  unfold nds;rw[if_pos (.inl rfl)];exact ze
 nd:=λa=>by
  unfold nds
  split
  ·exact List.pairwise_singleton _ _
  ·split
   ·split
    ·refine List.Pairwise.map _ (R:=λa b=>a≠b) (λa b h z=>h ?_) hcn;exact congrArg (λn:Nd=>n.2.1) z
    ·exact List.pairwise_singleton _ _
   ·exact List.nodup_nil
 ln:=λa=>by
  unfold nds
  split
  ·show 1<=10;decide
  ·split
   ·split
    ·rw[zd];exact hc
    ·show 1<=10;decide
   ·exact Nat.zero_le _
 fw:=λa n ha hn m hm=>by
  have h1:=oW hn;unfold lmv at hm;split at hm
  ·cases hm
  ·rename_i hne;obtain⟨b,hb,rfl⟩:=zA.mp hm
   have ta:n.1.toNat=a:=by omega
   rw[ta] at hb;exact⟨a+1,by omega,by omega,hb⟩
 sp:=λa b n h1 h2=>by
  have:=oW h1
  have:=oW h2
  omega
 ml:=λn=>by
  unfold lmv
  split
  ·exact Nat.zero_le _
  ·rw[zd];unfold nds
   split
   ·show 1<=1000;decide
   ·split
    ·split
     ·rw[zd];omega
     ·show 1<=1000;decide
    ·exact Nat.zero_le _
 fe:=λn h=>by
  unfold lmv;rw[if_pos (jj h)]
 u1:=rfl
 u2:=rfl
 u3:=rfl
 u4:=rfl
 u5:=rfl
 hN:=by omega
structure LkT(l:List L3)(cs:List Nat):Prop where
 ll:l.length<=250
 cl:cs.length<=10
 cn:cs.Nodup
 c0:cs≠[]
def txt(ms:List M3):List Nat:=(ms.map (·.name)).flatten
def K9(m:M3)(ms:List M3):txt (m::ms)=m.name++txt ms:=rfl
def QzK   (h:LkT l c)(a:Nat)(b:a<=l.length+1):nds l c a≠[]:=by
 unfold nds
 split
 ·exact List.cons_ne_nil _ _
 ·rw[zw (show a - 1<l.length by omega)]
  dsimp
  split
  ·intro z;exact h.c0 (List.map_eq_nil_iff.mp z)
  ·exact List.cons_ne_nil _ _
def Qxv   (h:LkT l j)(a:Nat)(n:Nd)(f:a<=l.length+1)(c:n∈nds l j a)(d:vO l n=false):lmv l j n≠[]:=by
 have h1:=oW c;have b :=of_decide_eq_false d;unfold lmv;rw[if_neg b];intro z;exact QzK h _ (by omega) (List.map_eq_nil_iff.mp z)
theorem La:∀ms:List M3,gC (ms.map λm=>D.str m.name)=some (ms.map (·.name))
 | []=>rfl
 |m::ms=>by
  show(gC _).map _=_;rw[La];rfl
theorem Lb:∀ms:List M3,((ms.map (·.name)).map List.length).sum=(txt ms).length
 | []=>rfl
 |m::ms=>by
  rw[K9,zf,<-Lb];rfl
def Ld(l:List L3):List (Str×D):=[("look",.lst (l.map dK))]
def pfl(l:List L3):putD "look" (.lst (l.map dK)) []=Ld l:=rfl
def QwT(O:au)   (b:∀O,qU [.lst (l.map dK),.int 1] O=.ok (.lst (d.map st)) O):vm [.ob O.length,.lst (l.map dK)] (O++[.ins "Leaps" []])=.ok .non (O++[.ins "Leaps" (lfs l d)]):=by
 show bu _=_;unfold JN;rw[sq (iw (c:="Leaps") (fs:=[]) (Bu rfl rfl) rfl dX ze (by decide)),mU,pfl];rw[iw (c:="Leaps") (fs:=Ld l) ((bA (maS rfl (ma1 rfl))).trans (b _)) rfl dX ze (by show 1<900;decide),mU];rfl
theorem Le   :∀(ms:List M3) (a:Nat) (n:Nd),a<=l.length+1->n∈nds l cs a->Wy ps (lmv l cs) (vO l) n ms->(txt ms).length<=11 * (l.length+1 - a)
 | [],a,n,ha,hn,w=>Nat.zero_le _
 |m::ms,a,n,ha,hn,⟨hf,hm,_,w⟩=>by
  have h1:=oW hn;have c :=of_decide_eq_false hf;unfold lmv at hm;rw[if_neg c] at hm;obtain⟨b,d,rfl⟩:=zA.mp hm;have i:=Le ms _ b (by omega) d w;have lb:=KZ n.2 b.2;have ls:=K4 l n.1.toNat;rw[K9];rw[zf,zf];omega
def Kp(O b:au):Prop:=∀(j:Nat) (x:Ob),O[j]?=some x->b[j]?=some x
def Qur   (h:LkT l I)(C:∀O,qU [.lst (l.map dK),.int 1] O=.ok (.lst (I.map st)) O)(O:au):∃T b,T.length<=5000/\qW [.lst (l.map dK)] O=.ok (.str T) b/\Kp O b:=by
 have G:=h.ll;obtain⟨b,F,c,d,e,k,_,_,E⟩:=QAX (K8 _ h.ll h.cl h.cn) (Qxv h) (by omega) dX;have hlen:=Le d 0 _ (Nat.zero_le _) (K8 0 h.ll h.cl h.cn).f0 E;refine⟨txt d,b,by omega,?_,λj x f=>k j x (by rw[zD (zt.mp f).1];exact f)⟩
 have mk:dD "Leaps" vm (aj (aa 0) ao) [some (.lst (l.map dK)),none] O=.ok (.ob O.length) (O++[.ins "Leaps" (lfs l I)]):=by
  rw[yz,ma1 rfl,aO,QwT O C,yC]
 have u :=(Bq (fZ mk)).trans e
 have y:lX (ak gIx (aa 1) (mC (.int 1))) [some (.lst (l.map dK)),some (.tup [.int c,.lst (d.map λm=>.str m.name)])] b=.ok (.str (txt d)) b:=by
  unfold lX;rw[show ak gIx _ _ _ b=.ok _ b from rfl,aO]
  dsimp  [nW]
  rw[La]
  dsimp
  rw[if_pos (by rw[Lb];omega)];rfl
 have q:Am [.lst (l.map dK)] O=.ok (.tup [.int c,.str (txt d)]) b:=by
  show bu (Al [some _,none] O)=_;unfold Al;rw[sq (Kc u)];show bu (aA _ [some _,some _] b)=_;rw[dF,Bl (maS rfl (ma1 y)) (show 2<=1000000 by decide)];rfl
 show bu _=_;unfold JP;rw[dF,jX ((Bq (fZ rfl)).trans q) rfl rfl];rfl
structure Okt(t:List Nat):Prop where
 len:t.length<=5000
 ok:∀c∈t,(32<=c/\c<=125)\/c=10\/c=9
def Okt.lt  (h:Okt t):∀c∈t,c<128:=λc b=>by
 have:=h.ok c b
 omega
def Okt.asc  (h:Okt t):ascii t=true:=by
 unfold ascii;rw[jc];intro c b;exact zu (h.lt c b)
@[simp] theorem QD6 :gIx (.str [a]) (.int 0)=some (.str [a]):=rfl
@[simp] theorem QDX :gIx (.str [a,b]) (.int 0)=some (.str [a]):=rfl
@[simp] theorem QEh :gIx (.str [a,b]) (.int 1)=some (.str [b]):=rfl
@[simp] theorem QEd :gIx (.str [a,b,c]) (.int 0)=some (.str [a]):=rfl
@[simp] theorem QDO :gIx (.str [a,b,c]) (.int 1)=some (.str [b]):=rfl
@[simp] theorem QD1 :gIx (.str [a,b,c]) (.int 2)=some (.str [c]):=rfl
@[simp] theorem QD3 :gIx (.str [a,b,c,d]) (.int 0)=some (.str [a]):=rfl
@[simp] theorem QDP :gIx (.str [a,b,c,d]) (.int 1)=some (.str [b]):=rfl
@[simp] theorem QEc :gIx (.str [a,b,c,d]) (.int 2)=some (.str [c]):=rfl
@[simp] theorem QDT :gIx (.str [a,b,c,d]) (.int 3)=some (.str [d]):=rfl
@[simp] theorem QD9 :gIx (.tup [a,b]) (.int 0)=some a:=rfl
@[simp] theorem QDZ :gIx (.tup [a,b]) (.int 1)=some b:=rfl
@[simp] theorem QEb :gIx (.tup [a,b,c]) (.int 0)=some a:=rfl
@[simp] theorem QEi :gIx (.tup [a,b,c]) (.int 1)=some b:=rfl
@[simp] theorem QEa :gIx (.tup [a,b,c]) (.int 2)=some c:=rfl
def vR(c:Nat)(O:au):mD [.str [c]] O=.ok (.bl (col c)) O:=by
 simp[mD,Jg,col]
def Qp8(c:Nat)(O:au):oF [.str [c]] O=.ok (.bl (decide (32<=c/\c<=125))) O:=by
 simp[oF,Jf]
 by_cases h:32<=c<;>simp[h]
def Lf   {i:Nat}(h:(c7 0 (cH t))[i]?=some d):∃c,c∈t/\d=.tup [.int i,.str [c]]:=by
 rw[tU] at h;unfold cH at h;rw[zE] at h
 cases q:t[i]? with
 |none=>rw[q] at h;cases h
 |some c =>
  rw[q] at h;simp at h;exact⟨c,zL q,h.symm⟩
def QqQ(t:List Nat)(h:Okt t)(O:au):uP [.str t] O=.ok .non O:=by
 obtain⟨x,y,u,rfl,j⟩:=uF (g:=dM 2 (bM (mgN 1) (bM (mgN 2) d8)))
  (b:=aD (bY (bL (bj (aC oF (aj (aa 2) ao))) (bL (az (ak gEq (aa 2) (mC (.str [10])))) (az (ak gEq (aa 2) (mC (.str [9]))))))) _ aG)
  (λi ρ f=>f=O/\∃m j,ρ=[some (.str t),m,j]) _ 0 _ O ⟨rfl,none,none,rfl⟩ (by
   rintro i d ρ f hi ⟨rfl,m,j,rfl⟩;obtain⟨c,q,rfl⟩:=Lf hi;refine⟨_,rfl,_,_,.inl ?_,rfl,some (.int i),some (.str [c]),rfl⟩
   have:=h.ok c q
   have e:bL (bj (aC oF (aj (aa 2) ao))) (bL (az (ak gEq (aa 2) (mC (.str [10])))) (az (ak gEq (aa 2) (mC (.str [9]))))) [some (.str t),some (.int i),some (.str [c])] f=.ok true f:=by
    simp[Qp8]
    omega
   show aD _ _ _ [some _,some _,some _] f=_;simp only[iT,jN,e]
   rfl)
 simp  [uP,Ji,Il h.asc]
 rw[u];rfl
def mkD:Option (List Nat×List Nat)->D
 |some (k,v)=>.tup [.str k,.str v]
 |none=>.non
def Qy1(s:List Nat)(h0:1<=s.length)(h4:s.length<=4)(O:au):mF [.str s] O=.ok (mkD (markB s)) O:=by
 match s,h0,h4 with
 | [a],_,_=>simp[mF,qK,markB,mkD]
 | [a,b],_,_ =>
  simp[mF,qK,markB]
  by_cases h1:a=91/\b=93
  ·simp[h1,mkD,jQ]
  ·by_cases h2:a=91/\b=91
   ·simp[h2,mkD,bG]
   ·simp[h1,h2,mkD]
 | [a,b,c],_,_ =>
  simp[mF,qK,markB,vR]
  by_cases h1:a=91
  ·by_cases h2:col b=true
   ·by_cases h3:c=93
    ·simp[h1,h2,h3,mkD,fD]
    ·simp[h3,mkD]
   ·simp[h2,mkD]
  ·simp[h1,mkD]
 | [a,b,c,d],_,_ =>
  simp[mF,qK,markB,vR]
  by_cases h1:a=91
  ·by_cases f:b=47
   ·by_cases h2:col c=true
    ·by_cases h3:d=93
     ·simp[h1,h2,h3,f,mkD,fX]
     ·simp[h3,mkD]
    ·simp[h2,mkD]
   ·simp[f,mkD]
  ·simp[h1,mkD]
def QAV(s:List Nat)(h0:1<=s.length)(h4:s.length<=4)(O:au):mH [.str s] O=.ok (.bl (bf s)) O:=by
 match s,h0,h4 with
 | [a],_,_ =>
  simp[mH,qL,bf]
  by_cases h1:a=91<;>simp[h1]
 | [a,b],_,_ =>
  simp[mH,qL,bf,vR]
  by_cases h1:a=91
  ·by_cases h2:b=47<;>simp[h1,h2]
  ·simp[h1]
 | [a,b,c],_,_ =>
  simp[mH,qL,bf,vR]
  by_cases h1:a=91
  ·by_cases h2:b=47<;>simp[h1,h2]
  ·simp[h1]
 | [a,b,c,d],_,_ =>
  simp[mH,qL,bf]
def QBh(p:Int)(c:Nat)(O:au):qM [.int p,.str [c]] O=.ok (own p c) O:=by
 simp[qM,Jj,own,item]
 by_cases h1:c=10
 ·simp[h1,jP]
 ·by_cases h2:c=9
  ·simp[h2,mz]
  ·simp[h1,h2,bG]
theorem Lg(p:Int):∀(l:List Nat) (k:Nat),(c7 k (cH l)).map (λd=>match d with | .tup [.int i,.str [c]]=>own (p+i) c | _=>.non)=owns (p+k) l
 | [],k=>rfl
 |c::l,k=>by
  show own _ c::(c7 _ (cH l)).map _=own _ c::owns _ l;rw[Lg ];congr 2;omega
def BK(p:Int)(l:List Nat)(j:ascii l=true)(q:l.length<=100000)(O:au):oG [.int p,.str l] O=.ok (.lst (owns p l)) O:=by
 have hl':(c7 0 (cH l)).length<=1000000:=by rw[tR];unfold cH;rw[zd];omega
 have m:cj (dM 2 (bM (mgN 0) (bM (mgN 1) d8))) bN (aC qM (aj (ak aJ (aa 2) (aa 0)) (aj (aa 1) ao))) (c7 0 (cH l)) [none,none,some (.int p)] O []=.ok (owns p l) O:=by
  rw[H9 (λρ=>∃a b,ρ=[a,b,some _]) (λd=>match d with | .tup [.int i,.str [c]]=>own (p+i) c | _=>.non) _ _ _ _ ⟨none,none,rfl⟩ (by
   rintro d hd ρ ⟨a,b,rfl⟩;obtain⟨i,f⟩:=List.mem_iff_getElem?.mp hd;obtain⟨c,u,rfl⟩:=Lf f;refine⟨_,rfl,⟨_,_,rfl⟩,rfl,?_⟩
   simp[QBh])]
  rw[Lg ];simp
 simp[oG,Jk,Il j,hl',m]
def RO(h:List Nat)(p:Int):Ob:=.ins "Reader" [("held",.str h),("place",.int p)]
def fh     (e:O[n]?=some (RO h p)):eE ["Reader"] "held" (.ob n) O=.ok (.str h) O:=by
 unfold eE;dsimp ;rw[e];rfl
def fp     (e:O[n]?=some (RO h p)):eE ["Reader"] "place" (.ob n) O=.ok (.int p) O:=by
 unfold eE;dsimp ;rw[e];rfl
def ph      (e:O[n]?=some (RO h p)):puF ["Reader"] "held" (.str h') ρ (.ok (.ob n) O)=.nx ρ (O.set n (RO h' p)):=by
 unfold puF;dsimp ;rw[e];rfl
def pp      (e:O[n]?=some (RO h p)):puF ["Reader"] "place" (.int b) ρ (.ok (.ob n) O)=.nx ρ (O.set n (RO h b)):=by
 unfold puF;dsimp ;rw[e];rfl
def gs{O:au}   (e:O[n]?=some x):(O.set n y)[n]?=some y:=by
 obtain⟨h⟩:=zt.mp e;simp[h]
def BL  (H:bK h):ascii h=true:=by
 cases H with
 | h0
 | h1
 |h2=>rfl
 | h3 x hx
 |h4 x hx =>
  have :=jj hx
  have q:∀c∈[97,98,99,100,101,102,103,104,46],c<128:=by decide
  simp[ascii,q x this]
def QwS   (h:ascii a=true)(b:c<128):ascii (a++[c])=true:=by
 unfold ascii at *;rw[List.all_append,h];simp[b]
def QxP     (e:O[n]?=some (RO h p))(H:bK h)(c:Nat)(u:c<128):iV [.ob n,.str [c]] O=.ok (.lst (tk h c (p - h.length)).1) (O.set n (RO (tk h c (p - h.length)).2 (p+1))):=by
 have C:=H.len;have b:(O.set n (RO h (p+1)))[n]?=some _:=gs e
 have q:h.length+1<=1000000:=by omega
 have m:h.length<=1000000:=by omega
 have s0:1<=(h++[c]).length:=by simp
 have d:(h++[c]).length<=4:=by simp;omega
 have y:=QAV _ s0 d;have x:=Qy1 _ s0 d
 have f3:=λO=>BK (p - h.length) h (BL H) (by omega) O
 have f4:=λO=>BK (p - h.length) _ (QwS (BL H) u) (by omega) O
 unfold tk;simp[iV,Jo,fh e,fp e,pp e,q,m,y]
 by_cases j:bf (h++[c])=true
 ·simp[j,ph b]
 ·simp[j,x]
  cases  markB _ with
  |some  =>
   simp[mkD,ph b,item]
  |none =>
   simp[mkD]
   by_cases f:c=91
   ·subst f;simp[fh b,f3,ph b]
   ·simp[f,ph b,f4]
theorem Lh:∀(l:List Nat) (p:Int),(owns p l).length=l.length
 | [],_=>rfl
 |c::l,p=>by show(owns _ l).length+1=l.length+1;rw[Lh]
def Qy0  (H:bK h)(c:Nat)(p:Int):(tk h c p).1.length<=4:=by
 have:=H.len
 unfold tk
 split
 ·simp
 ·split
  ·simp
  ·split<;>simp[Lh]<;>omega
def Qt8{O:au}  :(O.set n x).set n y=O.set n y:=by simp
theorem Li{n:Nat}{t0:List Nat}:∀(t:List Nat) (h:List Nat) (_:bK h) (p:Int) (b:List D) (O:au) (j:Option D),O[n]?=some (RO h p)->(∀c∈t,c<128)->b.length+4 * t.length<=1000000 ->
  ∃f,bB (mgN 3) (gD 2 (aN "Reader" "take" iV (aa 0) (aj (aa 3) ao))) (cH t) [some (.ob n),some (.str t0),some (.lst b),j] O=.nx [some (.ob n),some (.str t0),some (.lst (b++(aQ h p t).1)),f] (O.set n (RO (aQ h p t).2 (p+t.length)))
 | [],h,H,p,b,O,j,e,_,_=>by
  refine⟨j,?_⟩;obtain⟨C,y⟩:=zt.mp e;show Fl.nx _ O=_;simp only[aQ,zJ,zW]
  have:O.set n (RO h p)=O:=by rw[<-y];exact List.set_getElem_self _
  simp[this]
 |c::t,h,H,p,b,O,j,e,hc,hl=>by
  have u:=QxP e H c (hc c ze)
  have m:meF "Reader" "take" iV (aj (aa 3) ao [some (.ob n),some (.str t0),some (.lst b),some (.str [c])]) (.ob n) O=iV [.ob n,.str [c]] O:=by
   unfold meF;dsimp only;rw[e];rfl
  have tl:=Qy0 H c (p - h.length);simp only[zz] at hl;obtain⟨f,q⟩:=Li t (tk h c (p - h.length)).2 (Ip H c (p - h.length) []).1 (p+1) (b++(tk h c (p - h.length)).1) (O.set n (RO (tk h c (p - h.length)).2 (p+1))) (some (.str [c])) (gs e) (λd hd=>hc d (zp _ hd)) (by rw[zf];omega);refine⟨f,?_⟩
  have x:(gD 2 (aN "Reader" "take" iV (aa 0) (aj (aa 3) ao))) [some (.ob n),some (.str t0),some (.lst b),some (.str [c])] O=.nx [some (.ob n),some (.str t0),some (.lst (b++(tk h c (p - h.length)).1)),some (.str [c])] (O.set n (RO (tk h c (p - h.length)).2 (p+1))):=by
   rw[Ij,uI,fV];show exF 2 (meF "Reader" "take" iV _ (.ob n) O) _=_;rw[m,u,Ik (ds:=b) rfl (by omega)];rfl
  show bB _ _ (D.str [c]::cH t) _ O=_;unfold bB;rw[mg_n];dsimp only
  show(match(gD 2 (aN "Reader" "take" iV (aa 0) (aj (aa 3) ao))) [some (.ob n),some (.str t0),some (.lst b),some (.str [c])] O with
   | .nx ρ' O'=>bB _ _ (cH t) ρ' O' | .ct ρ' O'=>bB _ _ (cH t) ρ' O' | .bk ρ' O'=>Fl.nx ρ' O' | r=>r)=_
  rw[x];dsimp only;rw[q,Qt8];simp only[aQ,zH,zz];congr 3
  push_cast
  omega
def QyC     (e:O[n]?=some (RO h p))(H:bK h)(t:List Nat)(b:Okt t):uQ [.ob n,.str t] O=.ok (.lst (aQ h p t).1) (O.set n (RO (aQ h p t).2 (p+t.length))):=by
 have d:=b.len;obtain⟨c,q⟩:=Li (t0:=t) t h H p [] O none e b.lt (by simp;omega);have q' :=q;simp only[uQ,Jp,Hz,zg,zX,zz,zW,List.replicate,List.cons_append,zO,cM,qy,mq,gZ,jO,fV,ja,je,aO,QqQ t b,uE,gH,qC,Hu,Nat.zero_le,if_true,qD,List.set_cons_succ,List.set_cons_zero,n8,ou,yq b.asc,yp,oh,q',dF,yo,HB]
def QuJ     (e:O[n]?=some (RO h p))(H:bK h):uT [.ob n] O=.ok (.lst (owns (p - h.length) h)) (O.set n (RO [] p)):=by
 have c:=H.len
 have b:h.length<=1000000:=by omega
 have f3:=λO=>BK (p - h.length) h (BL H) (by omega) O
 simp[uT,Jr,fh e,fp e,b,f3,ph e]
def Qzk(O:au):qN [.ob O.length] (O++[.ins "Reader" []])=.ok .non (O++[RO [] 0]):=by
 have a:(O++[Ob.ins "Reader" []])[O.length]?=some (.ins "Reader" []):=by simp
 have d:∀ρ,puF ["Reader"] "held" (.str []) ρ (.ok (.ob _) _)=.nx ρ (O++[.ins "Reader" [("held",.str [])]]):=λρ=>by
  unfold puF
  dsimp
  rw[a];simp[putD]
 have b:(O++[Ob.ins "Reader" [("held",.str [])]])[O.length]?=some (.ins "Reader" [("held",.str [])]):=by simp
 have c:∀ρ,puF ["Reader"] _ _ ρ (.ok (.ob _) _)=.nx ρ (O++[RO [] 0]):=λρ=>by
  unfold puF
  dsimp
  rw[b]
  dsimp
  have:putD "place" (.int 0) [("held",.str [])]=[(("held":Str),D.str []),("place",.int 0)]:=by rfl
  rw[this];simp[RO]
 simp[qN,Jm,d,c]
def QAo(ρ:aM)(O:au):dD "Reader" qN ao ρ O=.ok (.ob O.length) (O++[RO [] 0]):=by
 simp[Qzk]
def BP  (l:List α)(a b:Nat):cz l (some (a:Int)) (some (b:Int))=(l.drop a).take (b - a):=by
 unfold cz;rw[HT.sIx_nat,HT.sIx_nat]
 by_cases h:a<=l.length
 ·rw[Nat.min_eq_left h]
  by_cases c:b<=l.length
  ·rw[Nat.min_eq_left c]
  ·rw[List.take_of_length_le (by rw[List.length_drop];omega),List.take_of_length_le (by rw[List.length_drop];omega)]
 ·rw[Nat.min_eq_right (show l.length<=a by omega),List.drop_eq_nil_of_le (show l.length<=a by omega)];simp
def Lj  (l:List α)(b:Nat):cz l none (some (b:Int))=l.take b:=by
 unfold cz;rw[HT.sIx_nat,HT.sIx_none,List.drop_zero,Nat.sub_zero]
 by_cases c:b<=l.length
 ·rw[Nat.min_eq_left c]
 ·rw[List.take_of_length_le (by omega),List.take_of_length_le (by omega)]
def Qzy  (l:List α)(a:Nat):cz l (some (a:Int)) none=l.drop a:=by
 unfold cz;rw[HT.sIx_nat,HT.sIx_none]
 by_cases h:a<=l.length
 ·rw[Nat.min_eq_left h,List.take_of_length_le (by rw[List.length_drop];omega)]
 ·rw[List.drop_eq_nil_of_le (by omega),List.drop_eq_nil_of_le (by omega)];simp
@[simp] theorem QB2{a:Nat}:cz [a] none (some 2)=[a]:=rfl
@[simp] theorem QCu{a:Nat}:cz [a,b] none (some 2)=[a,b]:=rfl
@[simp] theorem QCy{a:Nat}:cz [a,b,c] none (some 2)=[a,b]:=rfl
@[simp] theorem QCQ{a:Nat}:cz [a,b,c,d] none (some 2)=[a,b]:=rfl
def BR :gIn false (.str [c]) (.str [97,98,99,100,101,102,103,104,46])=some (.bl (col c)):=by
 simp[col]
def itF(b:Nat)(x:List Nat×List Nat×Nat):D:=.tup [item b x.1 x.2.1,.int (x.2.2+1:Nat)]
def ifc{T:L2.M Bool}{e:L2.M D}{r:MS}{ρ:aM}{O:au}{b:Bool}{p:Nat}{y:List Nat×List Nat×Nat}(h:T ρ O=.ok b O)(h1:b=true->∃x,e ρ O=.ok (itF p x) O/\x=y)(h2:b=false->r ρ O=.rt (itF p y) O):aq (aD T (aA e) aG) r ρ O=.rt (itF p y) O:=by
 cases b
 ·exact(sq (cI h)).trans (h2 rfl)
 ·obtain⟨x,h3,rfl⟩:=h1 rfl;rw[cM,dG h,fc h3];rfl
def BV{e:L2.M D}{ρ:aM}{O:au}{p:Nat}{x y:List Nat×List Nat×Nat}(h:e ρ O=.ok (itF p x) O)(h2:x=y):aA e ρ O=.rt (itF p y) O:=by rw[fc h,h2]
def j0{T U:L2.M Bool}{ρ:aM}{O:au}{b c:Bool}(h:T ρ O=.ok b O)(h2:U ρ O=.ok c O):bQ T U ρ O=.ok (b&&c) O:=by
 rw[qw,h,aO,h2];cases b<;>rfl
def eqS{m q:L2.M D}{ρ:aM}{O:au}{a b:List Nat}(c:m ρ O=.ok (.str a) O)(hb:q ρ O=.ok (.str b) O):az (ak gEq m q) ρ O=.ok (decide (a=b)) O:=cT (aY c hb rfl)
def inC{m q:L2.M D}{ρ:aM}{O:au}{c:Nat}(b:m ρ O=.ok (.str [c]) O)(hb:q ρ O=.ok (.str [97,98,99,100,101,102,103,104,46]) O):az (ak (gIn false) m q) ρ O=.ok (col c) O:=cT (aY b hb BR)
def Ln(t:List Nat)(y:t.length<=1000000)(j:Nat)(c:Nat)(r:List Nat)(m:t.drop j=c::r)(O:au):oN [.str t,.int j] O=.ok (.tup [item j (one c r).1 (one c r).2.1,.int ((one c r).2.2+1:Nat)]) O:=by
 have hs:mSl (aa 0) (moS (mG (aa 1))) (moS (ak aJ (aa 1) (mC (.int 4)))) [some (.str t),some (.int j),some (.str [97,98,99,100,101,102,103,104,46]),none] O=.ok (.str ((c::r).take 4)) O:=by
  show ofO (gSl (.str t) (some (j:Int)) (some ((j:Int)+4))) O=_;rw[Hv,if_pos (by omega),show(j:Int)+4=((j+4:Nat):Int) by push_cast;rfl,BP,m,show j+4 - j=4 by omega];rfl
 suffices h:Bc [some (.str t),some (.int j),none,none] O=.rt (itF j (one c r)) O from congrArg bu h
 unfold Bc;refine(sq (bw m_c)).trans ((sq (bw hs)).trans ?_)
 rcases r with _ | ⟨d,_ | ⟨e,_ | ⟨f,g⟩⟩⟩<;>refine ifc (eqS rfl rfl) (λh=>⟨(jP,[],0),rfl,?_⟩) λh1=>ifc (eqS rfl rfl) (λh=>⟨(mz,[],0),rfl,?_⟩) λh2=>ifc (eqS rfl rfl) (λh=>⟨(jQ,[],1),rfl,?_⟩) λh3=>ifc (eqS rfl rfl) (λh=>⟨(bG,[91],1),rfl,?_⟩) λh4=>?_
 all_goals first
  |refine ifc (j0 (b:=true) rfl (j0 (eqS rfl rfl) (j0 (inC rfl rfl) (eqS rfl rfl)))) (λh=>⟨(fD,[_],2),rfl,?_⟩) λu=>ifc (j0 (b:=true) rfl (j0 (eqS rfl rfl) (j0 (inC rfl rfl) (eqS rfl rfl)))) (λh=>⟨(fX,[_],3),rfl,?_⟩) λq=>BV (x:=(bG,[c],0)) rfl ?_
  |refine ifc (j0 (b:=true) rfl (j0 (eqS rfl rfl) (j0 (inC rfl rfl) (eqS rfl rfl)))) (λh=>⟨(fD,[_],2),rfl,?_⟩) λu=>ifc (b:=false) rfl nofun λq=>BV (x:=(bG,[c],0)) rfl ?_
  |refine ifc (b:=false) rfl nofun λu=>ifc (b:=false) rfl nofun λq=>BV (x:=(bG,[c],0)) rfl ?_
  | skip
 all_goals
  clear hs m y
  simp only[List.take_succ_cons,List.take_nil,List.take_zero,QB2,QCu,QCy,QCQ,decide_eq_true_eq,decide_eq_false_iff_not,List.cons.injEq,and_true,zx,Bool.true_and] at *
  grind [one,cB,ig,eY,fY,fG]
def one_le(c:Nat)(r:List Nat):(one c r).2.2<=r.length:=by
 unfold one
 split
 ·simp
 split
 ·simp
 split
 ·unfold cB
  cases r with
  |nil=>simp
  |cons d r =>
   dsimp
   split
   ·simp
   split
   ·simp
   split
   ·unfold ig
    cases r with
    |nil=>simp
    |cons =>dsimp ;split<;>simp
   split
   ·unfold eY
    cases r with
    |nil=>simp
    |cons e r =>
     dsimp
     split
     ·unfold fY
      cases r with
      |nil=>simp
      |cons =>dsimp ;split<;>simp
     ·simp
   ·simp
 ·simp
def Qn6(t:List Nat)(E:t.length<=5000)(O:au):Bd [.str t] O=.ok (.lst (items 0 t)) O:=by
 obtain⟨C,f,e,rfl,pre,d,q,m,rfl,h1,h2,h3,h4⟩:=Io (t:=az (ak gLt (aa 2) (aK aP (aj (aa 0) ao))))
  (b:=aq (jG (aC oN (aj (aa 0) (aj (aa 2) ao))) (dM 2 (bM (mgN 3) (bM (mgN 4) d8)))) (aq (dR 1 (aa 3)) (aB 2 (ak aJ (aa 2) (aa 4)))))
  (λk ρ f=>f=O/\∃(pre:List D) (d:Nat) (q m:Option D),ρ=[some _,some (.lst pre),some (.int d),q,m]/\d<=t.length/\k=t.length - d/\pre++items d (t.drop d)=items 0 t/\pre.length<=d)
  wF t.length [some (.str t),some _,some (.int 0),none,none] O (by unfold wF;omega) ⟨rfl,[],0,none,none,rfl,by simp⟩ (by
   rintro k ρ f ⟨rfl,pre,d,q,m,rfl,h1,h2,h3,h4⟩
   have u:t.length<=1000000:=by omega
   have j:d<t.length:=by omega
   refine⟨by simp[u,j],?_⟩
   cases hd:t.drop d with
   |nil =>
    have:=congrArg List.length hd
    simp at this
    omega
   |cons c r =>
    have x:=congrArg List.length hd;simp at x;have F:=one_le c r;have y:=Ln t u d c r hd f;refine⟨t.length - (d+((one c r).2.2+1)),[some _,some (.lst (pre++[item d (one c r).1 (one c r).2.1])),some _,some (item d (one c r).1 (one c r).2.1),some (.int ((one c r).2.2+1))],f,by omega,?_,rfl,_,_,_,_,rfl,by omega,rfl,?_,?_⟩
    ·rw[cM,yD];simp only[mq,gZ,jO,fV,ja,je,aO,y];rw[yE Im];simp only[gH,cM,uJ,fV,List.set_cons_succ,List.set_cons_zero,ja,je];rw[uK rfl (by omega)];simp
    ·rw[hd,qH] at h3;rw[<-h3,zH]
     have:t.drop (d+((one c r).2.2+1))=r.drop (one c r).2.2:=by
      rw[<-List.drop_drop,hd,Nat.add_comm,<-List.drop_drop];rfl
     rw[this];simp
    ·simp
     omega) (by
   rintro ρ f ⟨rfl,pre,d,q,m,rfl,h1,h2,h3,h4⟩
   have u:t.length<=1000000:=by omega
   have j:t.length<=d:=by omega
   simp[u,j])
 have hd:t.drop d=[]:=List.drop_eq_nil_of_le (by omega);rw[hd,lE,zJ] at h3;subst h3;show bu (g8 (gO wF _ _ [some _,some _,some _,none,none] f) _)=_;unfold gO;rw[e];rfl
theorem Lp:∀(a:List Nat) (h:List Nat) (p:Int) (b:List Nat),aQ h p (a++b)=((aQ h p a).1++(aQ (aQ h p a).2 (p+a.length) b).1,(aQ (aQ h p a).2 (p+a.length) b).2)
 | [],h,p,b=>by simp[aQ]
 |c::a,h,p,b=>by
  have e:p+1+a.length=p+(c::a).length:=by simp;omega
  simp  [aQ]
  rw[Lp,e];simp
def QsR  (h3:r.length<=3)(h:bf r=true)(p:Int):aQ [] p r=([],r):=by
 match r,h3 with
 | [],_=>cases h
 | [a],_ =>
  have h1 :=by simpa [bf] using h
  subst h1;simp[aQ,tk,bf]
 | [a,b],_ =>
  simp[bf] at h
  simp[aQ,tk,bf,h]
 | [a,b,c],_ =>
  simp[bf] at h
  simp[aQ,tk,bf,h]
def Qxe(c:Nat)(tl:List Nat)(p:Int)(b:¬((c::tl).length<=3/\bf (c::tl)=true)):
  aQ [] p (c::tl)=(item p (one c tl).1 (one c tl).2.1::(aQ [] (p+(((one c tl).2.2+1:Nat):Int)) (tl.drop (one c tl).2.2)).1,(aQ [] (p+(((one c tl).2.2+1:Nat):Int)) (tl.drop (one c tl).2.2)).2):=by
 have f :=by omega
 have j:p+1+1 - 2=p:=by omega
 have L:p+1+1+1 - 3=p:=by omega
 have q2' :=by omega
 have q3' :=by omega
 by_cases G:c=91
 ·subst G
  match tl,b with
  | [],b=>exact absurd ⟨by simp,by simp[bf]⟩ b
  |d::tl2,b =>
   by_cases F:d=93
   ·subst F;simp[aQ,tk,bf,markB,one,cB,yF,f]
    constructor<;>congr 2<;>omega
   by_cases E:d=91
   ·subst E;simp[aQ,tk,bf,markB,one,cB,qI,f]
    constructor<;>congr 2<;>omega
   by_cases d3:col d=true
   ·obtain⟨O,T,J,u,q⟩:=oE d3
    match tl2,b with
    | [],b=>exact absurd ⟨by simp,by simp[bf,d3]⟩ b
    |e::tl3,b =>
     by_cases C:e=93
     ·subst C;simp[aQ,tk,bf,markB,one,cB,ig,F,E,d3,J,f,j,q2']
      constructor<;>congr 2<;>omega
     by_cases y:e=91
     ·subst y;simp[aQ,tk,bf,markB,one,cB,ig,owns,own,item,F,E,d3,J,u,q,f,j,q2']
     ·simp[aQ,tk,bf,markB,one,cB,ig,owns,own,F,E,d3,C,y,J,u,q,f,j,q2']
   by_cases Q:d=47
   ·subst Q
    match tl2,b with
    | [],b=>exact absurd ⟨by simp,by simp[bf]⟩ b
    |x::tl3,b =>
     by_cases m:col x=true
     ·obtain⟨O,T,J,u,q⟩:=oE m
      match tl3,b with
      | [],b=>exact absurd ⟨by simp,by simp[bf,m]⟩ b
      |e::tl4,b =>
       by_cases C:e=93
       ·subst C;simp[aQ,tk,bf,markB,one,cB,eY,fY,fG,m,f,j,L,q2',q3']
        constructor<;>congr 2<;>omega
       by_cases y:e=91
       ·subst y;simp[aQ,tk,bf,markB,one,cB,eY,fY,fG,owns,own,item,m,O,u,q,f,j,L,q2',q3']
       ·simp[aQ,tk,bf,markB,one,cB,eY,fY,fG,owns,own,item,m,C,y,O,u,q,f,j,L,q2',q3']
     ·by_cases P:x=91
      ·subst P;simp[aQ,tk,bf,markB,one,cB,eY,fY,fG,qI,owns,own,item,f,j,q2']
      ·simp[aQ,tk,bf,markB,one,cB,eY,fY,fG,owns,own,item,m,P,f,j,q2']
   ·simp[aQ,tk,bf,markB,one,cB,owns,own,item,F,E,d3,Q,f]
 ·by_cases I:c=10
  ·subst I;simp[aQ,tk,bf,markB,one,owns,own]
  by_cases R:c=9
  ·subst R;simp[aQ,tk,bf,markB,one,owns,own]
  ·simp[aQ,tk,bf,markB,one,owns,own,G,I,R]
def Lq(s:List Nat)(h1:1<=s.length)(h3:s.length<=3)(O:au):lH [.str s] O=.ok (.bl (bf s)) O:=by
 match s,h1,h3 with
 | [a],_,_ =>
  by_cases h:a=91<;>simp[lH,vC,bf,h]
 | [a,b],_,_ =>
  by_cases h:a=91<;>by_cases h2:b=47<;>simp[-HQ,BR,lH,vC,bf,h,h2]
 | [a,b,c],_,_ =>
  by_cases h:a=91<;>by_cases h2:b=47<;>simp[-HQ,BR,lH,vC,bf,h,h2]
def rH:M Bool:=az (ak gLt (aa 2) (aK aP (aj (aa 0) ao)))
def rJ:MS:=aq (aD (bQ (az (ak gLt (ak dO (aK aP (aj (aa 0) ao)) (aa 2)) (mC (.int 4)))) (bj (aC lH (aj (mSl (aa 0) (moS (aa 2)) moN) ao)))) (jK (aA (aU (aj (aa 1) (aj (mSl (aa 0) (moS (aa 2)) moN) ao))))) aG)
  (aq (jG (aC oN (aj (aa 0) (aj (aa 2) ao))) (dM 2 (bM (mgN 3) (bM (mgN 4) d8))))
  (aq (dR 1 (aa 3))
  (aB 2 (ak aJ (aa 2) (aa 4)))))
theorem Lr(t:List Nat)(I:t.length<=5000)(O:au):∀(n b:Nat) (pre:List D) (f d:Option D),t.length - b<n->b<=t.length->pre++(aQ [] (b:Int) (t.drop b)).1=(aQ [] 0 t).1->(aQ [] (b:Int) (t.drop b)).2=(aQ [] 0 t).2->pre.length<=b ->
  bu (g8 (dh rH rJ n [some (.str t),some (.lst pre),some (.int (b:Int)),f,d] O) (jK (aA (aU (aj (aa 1) (aj (mC (.str [])) ao))))))=.ok (.tup [.lst (aQ [] 0 t).1,.str (aQ [] 0 t).2]) O
 | 0,b,pre,f,d,h,_,_,_,_=>absurd h (Nat.not_lt_zero _)
 |n+1,b,pre,f,d,h,hat,h1,h2,h3=>by
  have u:t.length<=1000000:=by omega
  have hz':t.length<=16777216:=by omega
  unfold dh
  by_cases F:b<t.length
  ·have y:rH [some (.str t),some (.lst pre),some (.int (b:Int)),f,d] O=.ok true O:=by
    unfold rH;simp[u,F]
   rw[y];dsimp only
   cases hd:t.drop b with
   |nil =>
    have:=congrArg List.length hd
    simp at this
    omega
   |cons c r =>
    have J:=congrArg List.length hd;simp at J
    have j:cz t (some (b:Int)) none=c::r:=by rw[Qzy,hd]
    by_cases m:(c::r).length<=3/\bf (c::r)=true
    ·have C:=Lq (c::r) (by simp) m.1 O
     have h4:(t.length:Int) - (b:Int)<4:=by have:=m.1;simp at this;omega
     have E:rJ [some (.str t),some (.lst pre),some (.int (b:Int)),f,d] O=.rt (.tup [.lst pre,.str (c::r)]) O:=by
      unfold rJ;simp[u,hz',h4,j,C,m.2]
     rw[E];rw[hd,QsR m.1 m.2] at h1 h2;simp at h1 h2;rw[<-h1,<-h2];rfl
    ·have R:=one_le c r;have P:=Ln t u b c r hd O
     have Q:(bQ (az (ak gLt (ak dO (aK aP (aj (aa 0) ao)) (aa 2)) (mC (.int 4)))) (bj (aC lH (aj (mSl (aa 0) (moS (aa 2)) moN) ao)))) [some (.str t),some (.lst pre),some (.int (b:Int)),f,d] O=.ok false O:=by
      by_cases h4:(t.length:Int) - (b:Int)<4
      ·have G:(c::r).length<=3:=by simp;omega
       have L:bf (c::r)=false:=by
        cases q:bf (c::r) with
        |false=>rfl
        |true=>exact absurd ⟨G,q⟩ m
       have C:=Lq (c::r) (by simp) G O;simp[u,hz',h4,j,C,L]
      ·simp[u,h4]
     have E:rJ [some (.str t),some (.lst pre),some (.int (b:Int)),f,d] O=.nx [some (.str t),some (.lst (pre++[item b (one c r).1 (one c r).2.1])),some (.int ((b+((one c r).2.2+1):Nat):Int)),some (item b (one c r).1 (one c r).2.1),some (.int ((one c r).2.2+1:Nat))] O:=by
      unfold rJ;rw[cM,iT,Q];simp only[nZ,Bool.false_eq_true,if_false,uD,gH];rw[cM,yD];simp only[mq,gZ,jO,fV,ja,je,aO,P];rw[yE Im];simp only[gH,cM,uJ,fV,List.set_cons_succ,List.set_cons_zero,ja,je];rw[uK (ds:=pre) rfl (by omega)];simp
     rw[E];rw[hd,Qxe c r _ m] at h1 h2
     have x:t.drop (b+((one c r).2.2+1))=r.drop (one c r).2.2:=by
      rw[<-List.drop_drop,hd,Nat.add_comm,<-List.drop_drop];rfl
     have T:(b:Int)+(((one c r).2.2+1:Nat):Int)=((b+((one c r).2.2+1):Nat):Int):=by push_cast;rfl
     refine Lr t I O n _ _ _ _ (by omega) (by omega) ?_ ?_ (by simp;omega)
     ·rw[x,zH];exact h1
     ·rw[x];exact h2
  ·have y:rH [some (.str t),some (.lst pre),some (.int (b:Int)),f,d] O=.ok false O:=by
    unfold rH;simp[u];omega
   rw[y];dsimp only;have hd:t.drop b=[]:=List.drop_eq_nil_of_le (by omega);rw[hd] at h1 h2;simp[aQ] at h1 h2;rw[<-h1,h2];simp
def BW(t:List Nat)(b:t.length<=5000)(O:au):qZ [.str t] O=.ok (.tup [.lst (aQ [] 0 t).1,.str (aQ [] 0 t).2]) O:=by
 have:=Lr t b O wF 0 [] none none (by unfold wF;omega) (Nat.zero_le _) (by simp) (by simp) (by simp)
 exact this
abbrev LT:=Nat×Nat×Nat×Int
def dL(x:LT):D:=.tup [.str [x.1],.str [x.2.1],.str [x.2.2.1],.int x.2.2.2]
def Ls  (h:col c=true):c<=125:=by
 have q:∀c∈[97,98,99,100,101,102,103,104,46],c<=125:=by decide
 exact q c (jj h)
def OkL(x:LT):Prop:=x.1<=125/\col x.2.1=true/\col x.2.2.1=true
def Lw  (h:OkL x):d9 (dL x)=true/\(toP (dL x)).canLay0=true/\(toP (dL x)).depth<=5:=by
 obtain⟨h1,h2,h3⟩:=h;have h2:=Ls h2;have h3:=Ls h3;refine⟨rfl,?_,?_⟩
 ·have a:=uH (l:=[x.1]) (by simp;omega);have b:=uH (l:=[x.2.1]) (by simp;omega);have c:=uH (l:=[x.2.2.1]) (by simp;omega);show PyData.canLay0 (.tuple [.str _,.str _,.str _])=true;simp[PyData.canLay0,PyData.canLayAll0]
  try exact⟨a,b,c⟩
 ·show PyData.depth (.tuple [])<=5;simp[PyData.depth,PyData.depthAll]
def Lx(l:List LT)(h:∀x∈l,OkL x):okE (.lst (l.map dL))=true:=Ie (n:=5) (by decide) λd hd=>by
 obtain⟨x,hx,rfl⟩:=zA.mp hd;exact Lw (h x hx)
def bD:List Nat:=[119,104,111,108,101]
def cD:List Nat:=[109,111,114,101]
def mkO(M:Int)(b:List Nat)(n:Nat)(i g:Nat)(st:Bool):Ob:=.ins "Maker" [("most",.int M),("last_word",.str b),("letters",.ob n),("pair",.tup [.str [i],.str [g]]),("stale",.bl st)]
def fM{M:Int}{st:Bool}(e:O[o]?=some (mkO M b n i g st)):eE ["Maker"] "most" (.ob o) O=.ok (.int M) O:=by
 unfold eE;dsimp ;rw[e];rfl
def fW{M:Int}{st:Bool}(e:O[o]?=some (mkO M b n i g st)):eE ["Maker"] "last_word" (.ob o) O=.ok (.str b) O:=by
 unfold eE;dsimp ;rw[e];rfl
def fL{M:Int}{st:Bool}(e:O[o]?=some (mkO M b n i g st)):eE ["Maker"] "letters" (.ob o) O=.ok (.ob n) O:=by
 unfold eE;dsimp ;rw[e];rfl
def fP{M:Int}{st:Bool}(e:O[o]?=some (mkO M b n i g st)):eE ["Maker"] "pair" (.ob o) O=.ok (.tup [.str [i],.str [g]]) O:=by
 unfold eE;dsimp ;rw[e];rfl
def fS{M:Int}{st:Bool}(e:O[o]?=some (mkO M b n i g st)):eE ["Maker"] "stale" (.ob o) O=.ok (.bl st) O:=by
 unfold eE;dsimp ;rw[e];rfl
def pW{M:Int}{st:Bool}   (e:O[o]?=some (mkO M b n i g st)):puF ["Maker"] "last_word" (.str w) ρ (.ok (.ob o) O)=.nx ρ (O.set o (mkO M w n i g st)):=by
 unfold puF;dsimp ;rw[e];rfl
def pL{M:Int}{st:Bool}   (e:O[o]?=some (mkO M b n i g st)):puF ["Maker"] "letters" (.ob m) ρ (.ok (.ob o) O)=.nx ρ (O.set o (mkO M b m i g st)):=by
 unfold puF;dsimp ;rw[e];rfl
def pP{M:Int}{st:Bool}   (e:O[o]?=some (mkO M b n i g st)):puF ["Maker"] "pair" (.tup [.str [c],.str [g']]) ρ (.ok (.ob o) O)=.nx ρ (O.set o (mkO M b n c g' st)):=by
 unfold puF;dsimp ;rw[e];rfl
def pS{M:Int}{st:Bool}   (e:O[o]?=some (mkO M c n i g st)):puF ["Maker"] "stale" (.bl b) ρ (.ok (.ob o) O)=.nx ρ (O.set o (mkO M c n i g b)):=by
 unfold puF;dsimp ;rw[e];rfl
def gs'{O:au}  (e:O[o]?=some x):(O.set o y)[o]?=some y:=by
 obtain⟨h⟩:=zt.mp e;simp[h]
def ap1{O:au}{o:Nat}  (e:O[o]?=some x):(O++[y])[o]?=some x:=by
 rw[zD (zt.mp e).1];exact e
def apN{O:au} :(O++[y])[O.length]?=some y:=by simp
@[simp] theorem QEp  :mMl m ρ O=(m ρ O).bind λd O1=>match d with
 | .lst ds=>.ok (.ob O1.length) (O1++[.ml ds])
 |d=>.ok d O1:=rfl
def BX{M:Int}{st:Bool}  (e:O[o]?=some (mkO M d n i g st)):oH [.ob o,.str w] O=.ok (.lst [.tup [.ob n,.str w]]) ((O++[Ob.ml []]).set o (mkO M w O.length i g st)):=by
 have b:(O++[Ob.ml []])[o]?=some _:=ap1 e;have c:((O++[Ob.ml []]).set o _)[o]?=some (mkO M d O.length i g st):=gs' b;simp[oH,Jw,fL e,pL b,pW c]
def Qws{M:Int}{st:Bool}(e:O[o]?=some (mkO M lw n i g st)):mJ [.ob o] O=.ok .non (if st=true then(O++[Ob.ml []]).set o (mkO M lw O.length i g false) else O):=by
 have b:(O++[Ob.ml []])[o]?=some _:=ap1 e;have c:((O++[Ob.ml []]).set o (mkO M lw O.length i g st))[o]?=some _:=gs' b
 cases st with
 |true=>simp[mJ,yL,fS e,pL b,pS c]
 |false=>simp[mJ,yL,fS e]
def rK     (h1:mo ρ O=.ok (.ob n) O)(h2:O[n]?=some (.ml ds))(h3:m ρ O=.ok d O)(h4:ds.length<1000000):gG mo m ρ O=.nx ρ (O.set n (.ml (ds++[d]))):=by
 unfold gG;rw[h1]
 dsimp
 rw[h3]
 dsimp
 rw[h2]
 dsimp
 rw[if_pos h4]
def iy  (h:O[n]?=some (.ml ds)):aW O (.ob n)=.lst ds:=by
 unfold aW
 dsimp
 rw[h]
structure Sta where
 row:List LT
 st:Bool
 i:Nat
 g:Nat
structure OkS(M:Int)(s:Sta):Prop where
 len:(s.row.length:Int)<=M
 ok:∀x∈s.row,OkL x
 i:col s.i=true
 g:col s.g=true
def Mk(O:au)(o:Nat)(M:Int)(b:List Nat)(s:Sta):Prop:=∃n,O[o]?=some (mkO M b n s.i s.g s.st)/\O[n]?=some (.ml (s.row.map dL))
def Prt(O:au)(told:List D)(due:List (List LT×List Nat)):Prop:=(told=[]/\due=[])\/∃n r w,told=[.tup [.ob n,.str w]]/\due=[(r,w)]/\O[n]?=some (.ml (r.map dL))/\(w=bD\/w=cD)/\(∀x∈r,OkL x)/\r.length<=1000
inductive Itm:List Nat->List Nat->Prop where
 | anew:Itm mz []
 | end_:Itm jP []
 | plain:Itm jQ []
 | ink (c:Nat) (h:col c=true):Itm fD [c]
 | ground (c:Nat) (h:col c=true):Itm fX [c]
 | sign (c:Nat) (h:c<=125):Itm bG [c]
def bare(s:Sta):List LT:=if s.st=true then[] else s.row
def stS(M:Int)(s:Sta)(p:Int)(c:Nat):Sta:=if((bare s).length:Int)=M then⟨[(c,s.i,s.g,p)],false,s.i,s.g⟩ else⟨bare s++[(c,s.i,s.g,p)],false,s.i,s.g⟩
def iY(M:Int)(s:Sta):List (List LT×List Nat):=if((bare s).length:Int)=M then[(bare s,cD)] else[]
def stp(M:Int)(s:Sta)(p:Int)(k v:List Nat):Sta :=
 if k=mz then⟨s.row,true,46,46⟩ else if k=jP then⟨[],false,46,46⟩ else if k=bG then stS M s p (v.headD 0) else if k=fD then⟨bare s,false,v.headD 0,s.g⟩ else if k=fX then⟨bare s,false,s.i,v.headD 0⟩ else⟨bare s,false,46,46⟩
def due(M:Int)(s:Sta)(k:List Nat):List (List LT×List Nat):=if k=jP then[(s.row,bD)] else if k=bG then iY M s else[]
def lwS(M:Int)(s:Sta)(b k:List Nat):List Nat:=match due M s k with
 | [(_,w)]=>w
 | _=>b
def bU(x:List LT×List Nat):D:=.tup [.lst (x.1.map dL),.str x.2]
@[simp] theorem QEm   :dM 3 (bM (mgN i) (bM (mgN j) (bM (mgN k) d8))) (.tup [a,b,c]) ρ=some (((ρ.set i (some a)).set j (some b)).set k (some c)):=rfl
section
variable {O:au}{o n i g:Nat}{M:Int}{lw:List Nat}{st:Bool}
def fj{O:au}  (e:O[o]?=some x):o<O.length:=(zt.mp e).1
def Ly{r:L2.M (List D)}{ρ:aM}{O:au}{ds:List D}(h:r ρ O=.ok ds O)(b:ds.length<=1000000):aU r ρ O=.ok (.tup ds) O:=by rw[yh,h,aO,if_pos b]
def drp{m:L2.M D}{ρ:aM}{O O1:au}{d:D}(h:m ρ O=.ok d O1):fC m ρ O=.nx ρ O1:=by rw[qy,h];rfl
def QA7{ds:List D}{p:Int}{c:Nat}(e:O[o]?=some (mkO M lw n i g st))(d:O[n]?=some (.ml ds))(j:ds.length<1000000):
  uY [.ob o,item p bG [c]] O=if(ds.length:Int)=M then .ok (.lst [.tup [.ob n,.str cD]]) (((O++[Ob.ml []]).set o (mkO M cD O.length i g st)).set O.length (.ml [dL (c,i,g,p)])) else .ok (.lst []) (O.set n (.ml (ds++[dL (c,i,g,p)]))):=by
 by_cases b:(ds.length:Int)=M
 ·rw[if_pos b];have f:((O++[Ob.ml []]).set o (mkO M cD O.length i g st))[o]?=some (mkO M cD O.length i g st):=gs' (ap1 e)
  have m:((O++[Ob.ml []]).set o (mkO M cD O.length i g st))[O.length]?=some (.ml []):=by
   rw[zh (zq (fj e))];exact apN
  suffices h:yM [some (.ob o),some (item p bG [c]),none] O=.rt _ _ from congrArg bu h
  exact .trans (sq rfl) (.trans (sq (.trans (dG (.trans (cT (aY (iW (ma1 (fL e)) (by rw[zg,iy d];rfl)) (fM e) rfl)) (by rw[zu b]))) (vH ((dz rfl e rfl rfl).trans (BX (w:=cD) e))))) (.trans (sq (rK (fL f) m (Ly (maS rfl (maS (aY (fP f) rfl rfl) (maS (aY (fP f) rfl rfl) (ma1 rfl)))) (by simp)) (by decide))) rfl))
 ·rw[if_neg b]
  suffices h:yM [some (.ob o),some (item p bG [c]),none] O=.rt _ _ from congrArg bu h
  exact .trans (sq rfl) (.trans (sq (cI (.trans (cT (aY (iW (ma1 (fL e)) (by rw[zg,iy d];rfl)) (fM e) rfl)) (by rw[zk b])))) (.trans (sq (rK (fL e) d (Ly (maS rfl (maS (aY (fP e) rfl rfl) (maS (aY (fP e) rfl rfl) (ma1 rfl)))) (by simp)) j)) rfl))
def QyA{i g:Nat}{k v:List Nat}(h:Itm k v)(O:au):uU [.tup [.str [i],.str [g]],.str k,.str v] O=.ok (if k=fD then .tup [.str [v.headD 0],.str [g]] else if k=fX then .tup [.str [i],.str [v.headD 0]] else if k=bG then .tup [.str [i],.str [g]] else .tup [.str [46],.str [46]]) O:=by
 cases h<;>rfl
def Lz{M:Int}{st:Bool}  (e:O[o]?=some (mkO M lw n i g st)):lF [.ob o] O=.ok .non ((O++[Ob.ml []]).set o (mkO M lw O.length 46 46 false)):=by
 have b:(O++[Ob.ml []])[o]?=some _:=ap1 e;have d:((O++[Ob.ml []]).set o (mkO M lw O.length i g st))[o]?=some _:=gs' b;have c:((O++[Ob.ml []]).set o (mkO M lw O.length 46 46 st))[o]?=some _:=gs' b;simp[lF,uW,pL b,pP d,pS c]
def Qwh(e:O[o]?=some (mkO M lw n i g st)):u0 [.ob o] O=.ok (.bl (decide (lw=cD))) O:=congrArg (λr=>bu (lD r)) (aY (g:=gEq) (a:=aX ["Maker"] "last_word" (aa 0)) (b:=mC (.str [109,111,114,101])) (ρ:=[some (.ob o)]) (fW e) rfl rfl)
def QxU{M:Int}{st:Bool}  (e:O[o]?=some (mkO M lw n i g st))(b:O[n]?=some (.ml ds)):uZ [.ob o] O=.ok (.lst ds) O:=by
 simp[uZ,Jy,fL e,iy b]
end
def iz{O:au}{o:Nat}{M:Int}   {st:Bool}  (e:O[o]?=some (mkO M c m i g st))(b:O[n]?=some (.ml ds)):o≠n:=λz=>by
 rw[z,b] at e;cases e
def Prt.set{O:au}{o:Nat}{M:Int}{b:List Nat}{m i g:Nat}{st:Bool}{told:List D}{du:List (List LT×List Nat)}{x:Ob}(h:Prt O told du)(e:O[o]?=some (mkO M b m i g st)):Prt (O.set o x) told du:=by
 rcases h with h | ⟨n,r,w,h1,h2,h3,h4⟩
 ·exact .inl h
 ·exact .inr ⟨n,r,w,h1,h2,by rw[zh (iz e h3)];exact h3,h4⟩
def Sep(O:au)(o:Nat)(told:List D):Prop:=∀n w,told=[.tup [.ob n,.str w]]->∀(M:Int) (b:List Nat) (m i g:Nat) (st:Bool),O[o]?=some (mkO M b m i g st)->m≠n
def BZ{M:Int}   {st:Bool}(h:mkO M d n i g st=mkO j c m f g' b):n=m:=by
 cases h;rfl
def Sep.nil{O:au}{o:Nat}:Sep O o []:=λn w h=>nomatch h
def Sep.one{O:au}{o n:Nat}{w:List Nat}{M:Int}{c:List Nat}{m i g:Nat}{st:Bool}(e:O[o]?=some (mkO M c m i g st))(h:m≠n):Sep O o [.tup [.ob n,.str w]]:=λu q d E j x y C f b=>by
 rw[e] at b
 have:=BZ (zC b)
 cases d;rw[<-this];exact h
def Old(O:au)(o n:Nat)(ds:List D):Prop:=O[n]?=some (.ml ds)/\∀(M:Int) (b:List Nat) (m i g:Nat) (st:Bool),O[o]?=some (mkO M b m i g st)->m≠n
def Keeps(O c:au)(o:Nat):Prop:=(∀n b,Old O o n b->Old c o n b)/\∀(r:Nat) (x:Ob),r≠o->(∀b,x≠.ml b)->O[r]?=some x->c[r]?=some x
def Keeps.refl{O:au}{o:Nat}:Keeps O O o:=⟨λ_ _ h=>h,λ_ _ _ _ h=>h⟩
def Keeps.trans{O O1 m:au}{o:Nat}(a:Keeps O O1 o)(b:Keeps O1 m o):Keeps O m o:=⟨λn j h=>b.1 n j (a.1 n j h),λr c f d h=>b.2 r c f d (a.2 r c f d h)⟩
def oX    {M:Int}   {st:Bool}(c:O[n]?=some (.ml ds))(e:O[o]?=some (mkO M y m i g st))(h:m≠n):Old O o n ds:=⟨c,λx f j q u d b=>by
 rw[e] at b;rw[<-BZ (zC b)]
 exact h⟩
def oY   {M:Int}   {st:Bool}(e:O[o]?=some (mkO M x n i g st))    :Keeps O ((O++[Ob.ml []]).set o (mkO C u O.length y g' q)) o:=by
 refine⟨λm j h=>?_,λr c b f h=>by rw[zh (Ne.symm b)];exact ap1 h⟩;have d:=(zt.mp h.1).1;refine oX (by rw[zh (iz e h.1)];exact ap1 h.1) (gs' (ap1 e)) (by omega)
def LC   {M:Int}   {st:Bool}(e:O[o]?=some (mkO M q n i g st))    :Keeps O (O.set o (mkO x j n u g' d)) o:=⟨λm ds h =>
 oX (by rw[zh (iz e h.1)];exact h.1) (gs' e) (h.2 _ _ _ _ _ _ e),λr c b f h=>by rw[zh (Ne.symm b)];exact h⟩
def LK   {M:Int}   {st:Bool}  (e:O[o]?=some (mkO M u n i g st))(b:O[n]?=some (.ml q)):Keeps O (O.set n (.ml j)) o:=⟨λm ds h =>
 oX (by rw[zh (h.2 _ _ _ _ _ _ e)];exact h.1) (by rw[zh (Ne.symm (iz e b))];exact e) (h.2 _ _ _ _ _ _ e),λr c d f h=>by rw[zh λz=>by rw[z,h] at b;exact f _ (zC b)];exact h⟩
def QwZ   {M:Int}   (h:Mk O o M lw s):∃O1,mJ [.ob o] O=.ok .non O1/\Mk O1 o M lw ⟨bare s,false,s.i,s.g⟩/\Keeps O O1 o:=by
 obtain⟨n,e,b⟩:=h;have q:=Qws e
 cases hs:s.st with
 |true =>
  rw[hs,if_pos rfl] at q;refine⟨_,q,⟨O.length,gs' (ap1 e),?_⟩,oY e⟩;rw[zh (zq (fj e))];unfold bare;rw[hs];exact apN
 |false =>
  rw[hs] at q;refine⟨_,q,⟨n,by rw[hs] at e;exact e,?_⟩,Keeps.refl⟩;unfold bare;rw[hs];exact b
def QAW   {M:Int}     (h:Mk O o M y s)(m:s.row.length<=1000)(hok:∀x∈s.row,OkL x):∃O1 told,uY [.ob o,item p bG [c]] O=.ok (.lst told) O1 /\
  Mk O1 o M (if(s.row.length:Int)=M then cD else y) ⟨if(s.row.length:Int)=M then[(c,s.i,s.g,p)] else s.row++[(c,s.i,s.g,p)],s.st,s.i,s.g⟩/\Prt O1 told (if(s.row.length:Int)=M then[(s.row,cD)] else[])/\Sep O1 o told/\Keeps O O1 o:=by
 obtain⟨n,e,d⟩:=h;have q:=QA7 (p:=p) (c:=c) e d (by rw[zd];omega);rw[zd] at q;have j:=fj d;have u:=fj e
 by_cases b:s.row.length=M
 ·rw[if_pos b] at q;rw[if_pos b,if_pos b,if_pos b]
  have l1:((O++[Ob.ml []]).set o (mkO M cD O.length s.i s.g s.st)).length=O.length+1:=by simp
  have f:(((O++[Ob.ml []]).set o (mkO M cD O.length s.i s.g s.st)).set O.length (.ml [dL (c,s.i,s.g,p)]))[o]?=some (mkO M cD O.length s.i s.g s.st):=by
   rw[zh (by omega)];exact gs' (ap1 e)
  refine⟨_,_,q,⟨O.length,f,?_⟩,.inr ⟨n,s.row,cD,rfl,rfl,?_,.inr rfl,hok,m⟩,Sep.one f (by omega),(oY e).trans (LK (gs' (ap1 e)) (by rw[zh (zq (fj e))];exact apN))⟩
  ·rw[zQ (by omega)];rfl
  ·rw[zh (by omega),zh (iz e d)];exact ap1 d
 ·rw[if_neg b] at q;rw[if_neg b,if_neg b,if_neg b];refine⟨_,_,q,⟨n,?_,?_⟩,.inl ⟨rfl,rfl⟩,Sep.nil,LK e d⟩
  ·rw[zh (Ne.symm (iz e d))];exact e
  ·rw[zQ j];simp
def rM(s:Sta)(k v:List Nat):Nat×Nat:=if k=fD then(v.headD 0,s.g) else if k=fX then(s.i,v.headD 0) else if k=bG then(s.i,s.g) else(46,46)
def oZ   {M:Int}       (h:Mk O o M Q s)(it:Itm k v)(C:Prt O told du)(c:Sep O o told):
  ∃b,(aq (bI ["Maker"] "pair" (aa 0) (aC uU (aj (aX ["Maker"] "pair" (aa 0)) (aj (aa 2) (aj (ak gIx (aa 1) (mC (.int 2))) ao))))) (aA (aa 3))) [some (.ob o),some (item p k v),some (.str k),some (.lst told)] O=.rt (.lst told) b/\Mk b o M Q ⟨s.row,s.st,(rM s k v).1,(rM s k v).2⟩/\Prt b told du/\Sep b o told/\Keeps O b o:=by
 obtain⟨n,e,f⟩:=h;have x:gIx (item p k v) (.int 2)=some _:=rfl;have d:=QyA (i:=s.i) (g:=s.g) it
 have q:(if k=fD then D.tup [.str [v.headD 0],.str [s.g]] else if k=fX then .tup [.str [s.i],.str [v.headD 0]] else if k=bG then .tup [.str [s.i],.str [s.g]] else .tup [.str [46],.str [46]])=.tup [.str [(rM s k v).1],.str [(rM s k v).2]]:=by
  unfold rM
  split
  ·rfl
  ·split
   ·rfl
   ·split<;>rfl
 rw[q] at d;have E:aW O (item p k v)=item p k v:=rfl;refine⟨O.set o _,?_,⟨n,gs' e,by rw[zh (iz e f)];exact f⟩,C.set e,?_,LC e⟩
 rotate_left
 ·intro u m y P G I J L F j;rw[gs' e] at j;rw[<-BZ (zC j)];exact c u m y _ _ _ _ _ _ e
 simp only[cM,yw,mq,gZ,jO,Ii,fV,ja,je,aO,fP e,uA,m_c,E,gY,x,gW,d,yx,pP e,gH,dF,yo]
def fSt{O:au}{o n i g:Nat}{M:Int}{c:List Nat}{st b:Bool}{ρ:aM}(e:O[o]?=some (mkO M c n i g st)):bI ["Maker"] "stale" (aa 0) (mC (.bl b)) (some (.ob o)::ρ) O=.nx (some (.ob o)::ρ) (O.set o (mkO M c n i g b)):=pS e
def QBf{O:au}{o:Nat}{M:Int}{C:List Nat}{s:Sta}{p:Int}{k v:List Nat}(h:Mk O o M C s)(hs:OkS M s)(Z:M<=200)(it:Itm k v):∃d told,qO [.ob o,item p k v] O=.ok (.lst told) d/\Mk d o M (lwS M s C k) (stp M s p k v)/\Prt d told (due M s k)/\Sep d o told/\Keeps O d o:=by
 have hlen:=hs.len
 have L:s.row.length<=1000:=by omega
 have Q:∀x∈bare s,OkL x:=λx hx=>by
  unfold bare at hx;split at hx
  ·cases hx
  ·exact hs.ok x hx
 have J:(bare s).length<=1000:=by
  unfold bare
  split
  ·simp
  ·exact L
 obtain⟨n,e,E⟩:=id h;obtain⟨O1,P,h1,F⟩:=QwZ h
 have I:=λρ=>(dz (ρ:=some (.ob o)::ρ) (m:="empty_stale") (cf:=mJ) (mo:=aa 0) (ma:=ao) rfl e rfl rfl).trans P
 have fin:∀{told:List D}{d:au},Jx [some (.ob o),some (item p k v),none,none] O=.rt (.lst told) d->qO [.ob o,item p k v] O=.ok (.lst told) d:=λh=>congrArg bu h
 cases it with
 |anew =>
  have h2:Mk (O.set o (mkO M C n s.i s.g true)) o M C ⟨s.row,true,s.i,s.g⟩:=⟨n,gs' e,by rw[zh (iz e E)];exact E⟩;obtain⟨d,t1,t2,q,j,f⟩:=oZ (p:=p) (told:=[]) (du:=[]) h2 Itm.anew (.inl ⟨rfl,rfl⟩) Sep.nil;exact⟨d,[],fin (.trans (sq rfl) (.trans (sq rfl) (.trans (sq (.trans (cI rfl) (.trans (dG rfl) (fSt e)))) (.trans (sq (cI rfl)) t1)))),t2,q,j,(LC e).trans f⟩
 |end_ =>
  have G:=fSt (b:=false) (ρ:=[some (item p jP []),some (.str jP),some (.lst [.tup [.ob n,.str bD]])]) (gs' (O:=O++[.ml []]) (y:=mkO M bD O.length s.i s.g s.st) (ap1 e));have h2:Mk _ o M bD ⟨[],false,s.i,s.g⟩:=⟨O.length,gs' (ap1 e),by rw[zh (zq (fj e))];exact apN⟩;obtain⟨d,t1,t2,q,j,f⟩:=oZ (p:=p) (told:=[.tup [.ob n,.str bD]]) (du:=[(s.row,bD)]) h2 Itm.end_ (.inr ⟨n,s.row,bD,rfl,rfl,by rw[zh (iz e E)];exact ap1 E,.inl rfl,hs.ok,L⟩) (Sep.one (gs' (ap1 e)) (Nat.ne_of_gt (fj E)));rw[List.set_set] at G;exact⟨d,[.tup [.ob n,.str bD]],fin (.trans (sq rfl) (.trans (sq rfl) (.trans (sq (.trans (dG rfl) (.trans (sq (vH ((dz rfl e rfl rfl).trans (BX (w:=bD) e)))) G))) (.trans (sq (cI rfl)) t1)))),t2,q,j,(oY e).trans f⟩
 |plain =>
  obtain⟨d,t1,t2,q,j,f⟩:=oZ (p:=p) (told:=[]) (du:=[]) h1 Itm.plain (.inl ⟨rfl,rfl⟩) Sep.nil;exact⟨d,[],fin (.trans (sq rfl) (.trans (sq rfl) (.trans (sq (.trans (cI rfl) (.trans (cI rfl) (drp (I _))))) (.trans (sq (cI rfl)) t1)))),t2,q,j,F.trans f⟩
 |ink c hc =>
  obtain⟨d,t1,t2,q,j,f⟩:=oZ (p:=p) (told:=[]) (du:=[]) h1 (Itm.ink c hc) (.inl ⟨rfl,rfl⟩) Sep.nil;exact⟨d,[],fin (.trans (sq rfl) (.trans (sq rfl) (.trans (sq (.trans (cI rfl) (.trans (cI rfl) (drp (I _))))) (.trans (sq (cI rfl)) t1)))),t2,q,j,F.trans f⟩
 |ground c hc =>
  obtain⟨d,t1,t2,q,j,f⟩:=oZ (p:=p) (told:=[]) (du:=[]) h1 (Itm.ground c hc) (.inl ⟨rfl,rfl⟩) Sep.nil;exact⟨d,[],fin (.trans (sq rfl) (.trans (sq rfl) (.trans (sq (.trans (cI rfl) (.trans (cI rfl) (drp (I _))))) (.trans (sq (cI rfl)) t1)))),t2,q,j,F.trans f⟩
 |sign c hc =>
  obtain⟨O2,told,a1,a2,X,W,U⟩:=QAW (p:=p) (c:=c) h1 J Q;obtain⟨d,t1,t2,q,j,f⟩:=oZ (p:=p) a2 (Itm.sign c hc) X W;obtain⟨Y,G,_⟩:=id h1;refine⟨d,told,fin (.trans (sq rfl) (.trans (sq rfl) (.trans (sq (.trans (cI rfl) (.trans (cI rfl) (drp (I _))))) (.trans (sq (.trans (dG rfl) (vH ((dz rfl G rfl rfl).trans a1)))) t1)))),?_,?_,j,(F.trans U).trans f⟩
  ·have T:stp M s p bG [c]=stS M s p c:=rfl
   have R:lwS M s C bG=if((bare s).length:Int)=M then cD else C:=by
    show(match iY M s with | [(_,w)]=>w | _=>C)=_;unfold iY
    by_cases u:((bare s).length:Int)=M
    ·rw[if_pos u,if_pos u]
    ·rw[if_neg u,if_neg u]
   rw[T,R];have t2':Mk d o M (if((bare s).length:Int)=M then cD else C) ⟨if((bare s).length:Int)=M then[(c,s.i,s.g,p)] else bare s++[(c,s.i,s.g,p)],false,s.i,s.g⟩:=t2;unfold stS
   by_cases u:((bare s).length:Int)=M
   ·rw[if_pos u,if_pos u] at t2' ⊢;exact t2'
   ·rw[if_neg u,if_neg u] at t2' ⊢;exact t2'
  ·have d3:due M s bG=iY M s:=rfl;rw[d3];unfold iY;exact q
theorem LQ  {all:List D}{g:MG}{b:MS}{O:au}(c:aM->Prop)(h:O[n]?=some (.ml all))(hs:∀d∈all,∀ρ,c ρ->∃ρ1,g d ρ=some ρ1/\∃ρ2,b ρ1 O=.nx ρ2 O/\c ρ2):
  ∀(m i:Nat) (ρ:aM),i+m=all.length->c ρ->∃ρ',iK n all g b (all.drop i) ρ O=.nx ρ' O/\c ρ'
 | 0,i,ρ,hi,hp=>by
  refine⟨ρ,?_,hp⟩;rw[List.drop_eq_nil_of_le (by omega)];unfold iK;rw[h]
  dsimp
  rw[if_pos rfl]
 |m+1,i,ρ,hi,hp=>by
  have f:i<all.length:=by omega
  have q:=zw f;obtain⟨ρ1,y,ρ2,x,j⟩:=hs _ (jh _) ρ hp;obtain⟨ρ',u,h3⟩:=LQ c h hs m (i+1) _ (by omega) j;refine⟨ρ',?_,h3⟩;rw[List.drop_eq_getElem_cons f];unfold iK;rw[h]
  dsimp
  rw[show all.length - ((all.drop _).length+1)=i by rw[List.length_drop];omega,q]
  dsimp
  rw[y]
  dsimp
  rw[x];exact u
def vU:MS:=(aq (aD (bL (bY (bj (cZ "tuple" (aa 2)))) (bL (az (ak gNe (aK aP (aj (aa 2) ao)) (mC (.int 4)))) (bY (bj (aC q9 (aj (ak gIx (aa 2) (mC (.int 3))) ao)))))) (aA (mC (.bl false))) aG)
  (aD (az (ak gNe (b7 (bF (mSl (aa 2) moN (moS (mC (.int 3))))) 1 [] (mgN 0) bN (cZ "str" (aa 0))) (bh (aj (mC (.bl true)) (aj (mC (.bl true)) (aj (mC (.bl true)) ao)))))) (aA (mC (.bl false))) aG))
def Qw1(p:Int)(O:au):q9 [.int p] O=.ok (.bl true) O:=by
 simp[q9,JX]
def QAB(x:LT)(b a1:Option D)(O:au):vU [b,a1,some (dL x)] O=.nx [b,a1,some (dL x)] O:=by
 have c:gIx (.tup [.str [x.1],.str [x.2.1],.str [x.2.2.1],.int x.2.2.2]) (.int 3)=some _:=rfl;have d:cz [D.str _,D.str [x.2.1],D.str _,D.int x.2.2.2] none (some 3)=[.str [x.1],.str _,.str [x.2.2.1]]:=rfl;have ok:okE (.lst [.bl true,.bl true,.bl true])=true:=rfl;have q:=yt ok;unfold vU;simp[dL,c,Qw1,d,cj,bN,ok,q]
def QA9   (l:List LT)(hok:∀x∈l,OkL x)(h:O[n]?=some (.ml (l.map dL))):rm [.ob n,.lst (l.map dL)] O=.ok (.bl true) O:=by
 have ok:=Lx l hok;have q:=yt ok;have f:=iy h
 obtain⟨j,e,b,rfl⟩:=LQ (g:=mgN 2) (λρ=>∃b,ρ=[some (.ob n),some (.lst (l.map dL)),b]) h (by
  rintro d hd ρ ⟨b,rfl⟩;obtain⟨x,_,rfl⟩:=zA.mp hd
  exact⟨_,rfl,_,QAB x _ _ O,_,rfl⟩) (l.map dL).length 0 _ (by omega) ⟨none,rfl⟩
 have c:p7 (aa 0) (mgN 2) vU [some (.ob n),some (.lst (l.map dL)),none] O=.nx [some (.ob n),some (.lst (l.map dL)),b] O:=by
  unfold p7;simp;rw[h];exact e
 unfold vU at c;simp only[rm,JZ,Hz,zg,zX,zz,zW,List.replicate,List.cons_append,zO,cM,iT,lB,jN,iR,ym,fV,ja,je,aO,f,nW,Qv8,yj,Qwr,lu,lA,nY,Bool.not_true,Bool.false_eq_true,if_false,uC,uA,qx,gZ,jO,Qyu,gW,gY,yr,decide_true,uB,nZ,uD,gH,c,dF,QAL,ok,q,Bool.and_self,if_true,yo,HB]
def OkS.stp{M:Int}  (h:OkS M s)(j:1<=M)   (it:Itm k v):OkS M (stp M s p k v):=by
 have f:∀x∈bare s,OkL x:=λx hx=>by
  unfold bare at hx;split at hx
  ·cases hx
  ·exact h.ok x hx
 have b:(bare s).length<=M:=by
  unfold bare
  split
  ·simp;omega
  ·exact h.len
 cases it with
 |anew=>exact⟨h.len,h.ok,(rfl),(rfl)⟩
 |end_=>exact⟨(show 0<=M by omega),(λx hx=>nomatch hx),(rfl),(rfl)⟩
 |plain=>exact⟨b,f,(rfl),(rfl)⟩
 |ink c d=>exact⟨b,f,d,h.g⟩
 |ground c d=>exact⟨b,f,h.i,d⟩
 |sign c d =>
  show OkS M (stS M s p c);unfold stS
  split
  ·refine⟨by omega,?_,h.i,h.g⟩;intro x hx;rw[zm.mp hx];exact⟨d,h.i,h.g⟩
  ·refine⟨by simp  ;omega,?_,h.i,h.g⟩;intro x hx
   rcases zB.mp hx with hx | hx
   ·exact f x hx
   ·rw[zm.mp hx];exact⟨d,h.i,h.g⟩
def ixS   (d:l.length<=1000000)(h:(l.length:Int)=n)(b:0<n):∃c,c∈l/\gIx (.str l) (.int (v % n))=some (.str [c]):=by
 obtain⟨c,h1,h2⟩:=HY (i:=v % n) (jt _ (by omega)) (by rw[h];exact ju _ b);exact⟨c,h2,by rw[HS,if_pos d,h1];rfl⟩
def ixL   (h:(l.length:Int)=n)(b:0<n):∃c,c∈l/\gIx (.lst l) (.int (v % n))=some c:=by
 obtain⟨c,h1,h2⟩:=HY (i:=v % n) (jt _ (by omega)) (by rw[h];exact ju _ b);exact⟨c,h2,h1⟩
def QAA(n k:Int)(h0:0<=k)(h1:k<=1000000)(O:au):cN [.int n,.int k] O=.ok (.int (mix n k)) O:=QzB n k h0 h1 O
abbrev It3:=Int×List Nat×List Nat
def itD(x:It3):D:=item x.1 x.2.1 x.2.2
def pG       (e:O[o]?=some (.ins "Maker" fs))(h:fs.length<900):puF ["Maker"] f d ρ (.ok (.ob o) O)=.nx ρ (O.set o (.ins "Maker" (putD f d fs))):=by
 unfold puF
 dsimp
 rw[e]
 dsimp
 rw[if_pos ⟨by simp,h⟩]
def Qup   {M:Int}  (e:O[o]?=some (.ins "Maker" [("most",.int M),("last_word",.str x)])):lF [.ob o] O=.ok .non ((O++[Ob.ml []]).set o (mkO M x O.length 46 46 false)):=by
 have b:(O++[Ob.ml []])[o]?=some _:=ap1 e
 have m:=λρ=>pG (f:="letters") (d:=.ob O.length) (ρ:=ρ) b (by simp)
 have u:=gs' (y:=.ins "Maker" (putD "letters" (.ob O.length) [("most",.int M),("last_word",.str x)])) b
 have j:=λρ=>pG (f:="pair") (d:=.tup [.str [46],.str [46]]) (ρ:=ρ) u (by show 3<900;decide)
 have q:=gs' (y:=.ins "Maker" (putD "pair" (.tup [.str [46],.str [46]]) (putD "letters" (.ob O.length) [("most",.int M),("last_word",.str x)]))) b
 have c:=λρ=>pG (f:="stale") (d:=.bl false) (ρ:=ρ) q (by show 4<900;decide)
 have fe:Ob.ins _ (putD "stale" _ (putD "pair" _ (putD "letters" _ [("most",.int M),("last_word",.str x)])))=mkO M x O.length 46 46 false:=rfl;rw[fe] at c;show bu (uW [some _] O)=_;unfold uW;simp  [m,j,c,HD]
def Qtn(M:Int)(h:1<=M/\M<=200)(O:au):uV [.int M,.int 1,.int 200] O=.ok (.bl true) O:=by
 simp[uV,Ju,yI,Jt,h]
def QzJ(M:Int)(h:1<=M/\M<=200)(O:au)(ρ:aM)(q:∀O,aa 2 ρ O=.ok (.int M) O):∃b n,dD "Maker" uX (aj (aa 2) ao) ρ O=.ok (.ob O.length) b/\b[O.length]?=some (mkO M bD n 46 46 false)/\b[n]?=some (.ml [])/\O.length<n/\∀(m:Nat) (x:Ob),O[m]?=some x->b[m]?=some x:=by
 have E:(O++[Ob.ins "Maker" []])[O.length]?=some _:=apN
 have G:=λρ=>pG (f:="most") (d:=.int M) (ρ:=ρ) E (by decide)
 have C:=gs' (y:=.ins "Maker" (putD "most" (.int M) [])) E
 have F:=λρ=>pG (f:="last_word") (d:=.str bD) (ρ:=ρ) C (by show 1<900;decide)
 have j:(((O++[Ob.ins _ []]).set _ _).set _ (.ins "Maker" (putD "last_word" (.str bD) (putD "most" (.int M) []))))[O.length]?=some _:=gs' C;have L:=Qup j
 have J:∀(b ) (a1 ),b[O.length]?=some (.ins "Maker" [("most",.int M),("last_word",.str bD)])->(aN "Maker" "begin_row" lF (aa 0) ao) [some (.ob _),a1] b=lF _ b:=λb a1 I=>by
  rw[uI];simp  [fV,ja,aO];unfold meF
  dsimp
  rw[I];rfl
 have u:uX [.ob O.length,.int M] (O++[Ob.ins "Maker" []])=.ok .non ((((O++[Ob.ins "Maker" []]).set O.length (.ins "Maker" (putD "most" (.int M) []))).set O.length (.ins "Maker" (putD "last_word" (.str bD) (putD "most" (.int M) [])))++[Ob.ml []]).set O.length (mkO M bD (((O++[Ob.ins "Maker" []]).set O.length (.ins "Maker" (putD "most" (.int M) []))).set O.length (.ins "Maker" (putD "last_word" (.str bD) (putD "most" (.int M) [])))).length 46 46 false)):=by
  show bu (yJ [some _,some _] _)=_;unfold yJ;have p1':∀ρ,puF _ _ (.str [119,104,111,108,101]) ρ _=_:=F;simp only[cM,iT,jN,iR,mq,gZ,jO,fV,m_c,ja,je,aO,Qtn M h,lu,lA,nY,Bool.not_true,nZ,Bool.false_eq_true,if_false,uD,gH,yw,m_g,QzI,yx,G,p1',qy,J _ _ j,L,uE,HD]
 obtain⟨b,c⟩:∃b,b=(((O++[Ob.ins "Maker" []]).set O.length (.ins "Maker" (putD "most" (.int M) []))).set O.length (.ins "Maker" (putD "last_word" (.str bD) (putD "most" (.int M) [])))++[Ob.ml []]).set O.length (mkO M bD (((O++[Ob.ins "Maker" []]).set O.length (.ins "Maker" (putD "most" (.int M) []))).set O.length (.ins "Maker" (putD "last_word" (.str bD) (putD "most" (.int M) [])))).length 46 46 false):=⟨_,rfl⟩;rw[<-c] at u;refine⟨b,_,?_,by rw[c];exact gs' (ap1 j),?_,by simp,λm x hx=>?_⟩
 ·rw[yz];simp only[gZ,jO,q,aO,u,yC]
 ·rw[c,zh (by simp)];exact apN
 ·have P:=(zt.mp hx).1;rw[c,zh (by omega),zD (by simp;omega),zh (by omega),zh (by omega)];exact ap1 hx
def QvP   (h:∀x∈c::r,x<=125):Itm (one c r).1 (one c r).2.1:=by
 have f:=h c ze;have b :=Itm.sign 91 (by decide);unfold one
 split
 ·exact Itm.end_
 split
 ·exact Itm.anew
 split
 ·unfold cB
  cases r with
  |nil=>exact b
  |cons d r =>
   dsimp
   split
   ·exact Itm.plain
   split
   ·exact b
   split
   ·unfold ig
    cases r with
    |nil=>exact b
    |cons  =>
     dsimp
     split
     ·exact Itm.ink d (by assumption)
     ·exact b
   split
   ·unfold eY
    cases r with
    |nil=>exact b
    |cons e r =>
     dsimp
     split
     ·unfold fY
      cases r with
      |nil=>exact b
      |cons  =>
       dsimp
       split
       ·exact Itm.ground e (by assumption)
       ·exact b
     ·exact b
   ·exact b
 ·exact Itm.sign c f
theorem LR:∀(n:Nat) (t:List Nat) (p:Int),t.length<=n->(∀c∈t,c<=125)->∃b:List It3,items p t=b.map itD/\(∀x∈b,Itm x.2.1 x.2.2)/\b.length<=t.length
 | 0,[],p,_,_=>⟨[],by rw[lE];rfl,by simp⟩
 | 0,c::t,p,h,_=>by simp at h
 |n+1,[],p,_,_=>⟨[],by rw[lE];rfl,by simp⟩
 |n+1,c::t,p,h,hc=>by
  simp   at h
  obtain⟨b,e,f,d⟩:=LR n (t.drop (one c t).2.2) _ (by rw[List.length_drop];omega) λx hx=>hc x (zp _ (List.mem_of_mem_drop hx))
  refine⟨(p,(one c t).1,(one c t).2.1)::b,by rw[qH,e];rfl,λx hx=>?_,by rw[List.length_drop] at d;simp  ;omega⟩
  rcases zl.mp hx with rfl | hx
  ·exact QvP hc
  ·exact f x hx
abbrev Du:=List LT×List Nat
def rn(M:Int):Sta->List It3->Sta×List Du
 |s,[]=>(s,[])
 |s,x::xs=>((rn M (stp M s x.1 x.2.1 x.2.2) xs).1,due M s x.2.1++(rn M (stp M s x.1 x.2.1 x.2.2) xs).2)
def s0:Sta:=⟨[],false,46,46⟩
def lK{M:Int}(h:1<=M):OkS M s0:=⟨(show 0<=M by omega),(λx hx=>nomatch hx),(rfl),(rfl)⟩
def vV(M:Int)(s:Sta)(k:List Nat):(due M s k).length<=1:=by
 unfold due iY
 split
 ·simp
 ·split
  ·split<;>simp
  ·simp
theorem iZ{M:Int}(c:1<=M):∀(b:List It3) (s:Sta),OkS M s->(∀x∈b,Itm x.2.1 x.2.2)->OkS M (rn M s b).1/\(rn M s b).2.length<=b.length
 | [],s,h,_=>⟨h,zc _⟩
 |x::xs,s,h,hi=>by
  obtain⟨a⟩:=iZ c xs _ (h.stp c (hi x ze)) λy d=>hi y (zp _ d)
  have:=vV M s x.2.1
  refine⟨a,?_⟩;simp  [rn,zz];omega
def Ca:MS:=(aq (aD (bQ (bj (aa 4)) (bQ (az (ak gNe (aa 7) (mC (.str [101,110,100])))) (az (ak gNe (aa 7) (mC (.str [97,110,101,119])))))) (aq (aB 3 (bh ao))
  (aB 4 (mC (.bl false)))) aG)
  (aq (aD (az (ak gEq (aa 7) (mC (.str [115,105,103,110])))) (aq (aD (az (ak gEq (aK aP (aj (aa 3) ao)) (aa 1))) (aq (gG (aa 2) (aU (aj (aa 3) (aj (mC (.str [109,111,114,101])) ao))))
  (aB 3 (bh ao))) aG)
  (aB 3 (ak aJ (aa 3) (bh (aj (aU (aj (aa 8) (aj (ak gIx (aa 5) (mC (.int 0))) (aj (ak gIx (aa 5) (mC (.int 1))) (aj (aa 6) ao))))) ao))))) (aD (az (ak gEq (aa 7) (mC (.str [105,110,107])))) (nM 5 (mC (.int 0)) (aa 8)) (aD (az (ak gEq (aa 7) (mC (.str [103,114,111,117,110,100])))) (nM 5 (mC (.int 1)) (aa 8)) (aB 5 (bh (aj (mC (.str [46])) (aj (mC (.str [46])) ao)))))))
  (aq (aD (az (ak gEq (aa 7) (mC (.str [97,110,101,119])))) (aB 4 (mC (.bl true))) aG)
  (aD (az (ak gEq (aa 7) (mC (.str [101,110,100])))) (aq (gG (aa 2) (aU (aj (aa 3) (aj (mC (.str [119,104,111,108,101])) ao))))
  (aq (aB 3 (bh ao))
  (aB 4 (mC (.bl false))))) aG))))
def cU{b:MS}    (h:b ρ O=.rt d c):bu (b ρ O)=.ok d c:=by rw[h];rfl
def lL        (h:m ρ O=.ok ds O1)(c:bB g b ds ρ O1=r):cA m g b ρ O=r:=by rw[n8,h,oh,c]
def apP(m a1 j f d c b:Option D)(r:D)(w:List Nat)(ds:List D)(O:au)(h:ds.length<1000000):gG (aa 2) (aU (aj (aa 3) (aj (mC (.str w)) ao))) [m,a1,some (.ob O.length),some r,j,f,d,c,b] (O++[.ml ds])=.nx [m,a1,some (.ob O.length),some r,j,f,d,c,b] (O++[.ml (ds++[.tup [r,.str w]])]):=by
 rw[rK rfl dX rfl h,mU]
def Ma{R:List LT}{M:Int}{b a2:Option D}{ρ:aM}{O:au}:az (ak gEq (aK aP (aj (aa 3) ao)) (aa 1)) (b::some (.int M)::a2::some (.lst (R.map dL))::ρ) O=.ok (decide ((R.length:Int)=M)) O:=by
 rw[<-zd (f:=dL)];rfl
def Qv0(s:Sta)(M p:Int)(k v:List Nat)(h:Itm k v)(u:s.row.length<=1000)(b:List Du)(x:b.length<=10000)(f:Option D)(O:au):
  Ca [f,some (.int M),some (.ob O.length),some (.lst (s.row.map dL)),some (.bl s.st),some (.lst [.str [s.i],.str [s.g]]),some (.int p),some (.str k),some (.str v)] (O++[.ml (b.map bU)])=.nx [f,some (.int M),some (.ob O.length),some (.lst ((stp M s p k v).row.map dL)),some (.bl (stp M s p k v).st),some (.lst [.str [(stp M s p k v).i],.str [(stp M s p k v).g]]),some (.int p),some (.str k),some (.str v)] (O++[.ml ((b++due M s k).map bU)]):=by
 have j:b.length<1000000:=by omega
 unfold Ca
 cases h with
 |anew=>rw[show due M s mz=[] from rfl,zJ];obtain⟨_,st,_,_⟩:=s;cases st<;>rfl
 |end_ =>
  rw[zN];obtain⟨_,st,_,_⟩:=s
  cases st<;>exact(sq rfl).trans ((sq rfl).trans ((sq rfl).trans ((dG rfl).trans ((sq (apP _ _ _ _ _ _ _ _ _ (b.map bU) _ (by rw[zd];exact j))).trans rfl))))
 |plain=>rw[show due M s jQ=[] from rfl,zJ];obtain⟨_,st,_,_⟩:=s;cases st<;>rfl
 |ink c m=>rw[show due M s fD=[] from rfl,zJ];obtain⟨_,st,_,_⟩:=s;cases st<;>rfl
 |ground c m=>rw[show due M s fX=[] from rfl,zJ];obtain⟨_,st,_,_⟩:=s;cases st<;>rfl
 |sign c m =>
  obtain⟨R,st,i,g⟩:=s
  have q:(bare ⟨R,st,i,g⟩).length<=1000:=by cases st<;>simp_all [bare]
  refine(sq (ρ':=[f,some (.int M),some (.ob O.length),some (.lst ((bare ⟨R,st,i,g⟩).map dL)),some (.bl false),some (.lst [.str [i],.str [g]]),some (.int p),some (.str bG),some (.str [c])]) (by cases st<;>rfl)).trans ?_;rw[show stp M ⟨R,st,i,g⟩ p bG [c]=stS M ⟨R,st,i,g⟩ p c from rfl,show due M ⟨R,st,i,g⟩ bG=iY M ⟨R,st,i,g⟩ from rfl];unfold stS iY
  generalize bare ⟨R,st,i,g⟩=R' at q ⊢
  by_cases d:(R'.length:Int)=M
  ·rw[if_pos d,if_pos d,zN];exact .trans (sq (.trans (dG rfl) (.trans (sq (.trans (dG (Ma.trans (by rw[zu d]))) (.trans (sq (apP _ _ _ _ _ _ _ _ _ (b.map bU) _ (by rw[zd];exact j))) rfl))) rfl))) rfl
  ·rw[if_neg d,if_neg d,zJ,zN];exact .trans (sq (.trans (dG rfl) (.trans (sq (cI (Ma.trans (by rw[zk d])))) (bw (aY rfl rfl (if_pos (by rw[zd];exact zG (Nat.succ_le_succ q) (by decide)))))))) rfl
theorem Mf{M:Int}(E:1<=M/\M<=200)(C:Option D)(O:au):∀(b:List It3) (s:Sta) (c:List Du) (u q m:Option D),OkS M s->(∀x∈b,Itm x.2.1 x.2.2)->c.length+b.length<=10000 ->
  ∃j f d,bB (dM 3 (bM (mgN 6) (bM (mgN 7) (bM (mgN 8) d8)))) Ca (b.map itD) [C,some (.int M),some (.ob O.length),some (.lst (s.row.map dL)),some (.bl s.st),some (.lst [.str [s.i],.str [s.g]]),u,q,m] (O++[.ml (c.map bU)])=.nx [C,some (.int M),some (.ob O.length),some (.lst ((rn M s b).1.row.map dL)),some (.bl (rn M s b).1.st),some (.lst [.str [(rn M s b).1.i],.str [(rn M s b).1.g]]),j,f,d] (O++[.ml ((c++(rn M s b).2).map bU)])
 | [],s,c,u,q,m,_,_,_=>⟨u,q,m,by show Fl.nx _ _=_;simp[rn]⟩
 |x::b,s,c,u,q,m,hs,hi,hl=>by
  have it:=hi x ze;simp   at hl;have hlen:=hs.len;have J:=vV M s x.2.1;have I:=Qv0 s M x.1 _ _ it (by omega) c (by omega) C O;obtain⟨j,f,d,G⟩:=Mf E C O _ _ (c++due M s x.2.1) _ _ _ (hs.stp E.1 it) (λy F=>hi y (zp _ F)) (by rw[zf];omega);refine⟨j,f,d,?_⟩;refine(jY rfl I).trans ?_;rw[G,zH];rfl
def Mg{M:Int}(c:1<=M/\M<=200)(b:List It3)(d:∀x∈b,Itm x.2.1 x.2.2)(q:b.length<=5000)(O:au):Be [.lst (b.map itD),.int M] O=.ok (.tup [.ob O.length,.lst ((rn M s0 b).1.row.map dL)]) (O++[.ml ((rn M s0 b).2.map bU)]):=by
 obtain⟨m,j,f,e⟩:=Mf c _ O _ s0 [] _ _ _ (lK c.1) d (by simp;omega);have e' :=e;refine cU ?_;refine(bc (lL (eZ rfl) e')).trans ?_;rfl
def QBw{M:Int}{s:Sta}(h:OkS M s)(k:List Nat):∀x∈due M s k,(x.1.length:Int)<=M:=by
 intro x hx;unfold due iY at hx;split at hx
 ·rw[zm.mp hx];exact h.len
 ·split at hx
  ·split at hx
   ·rename_i b;rw[zm.mp hx];exact Int.le_of_eq b
   ·cases hx
  ·cases hx
theorem Cd{M:Int}(c:1<=M):∀(b:List It3) (s:Sta),OkS M s->(∀x∈b,Itm x.2.1 x.2.2)->∀x∈(rn M s b).2,(x.1.length:Int)<=M
 | [],s,_,_,x,hx=>nomatch hx
 |y::b,s,h,hi,x,hx=>by
  have hx':x∈due M s y.2.1++(rn M (stp M s y.1 y.2.1 y.2.2) b).2:=hx
  rcases zB.mp hx' with hx | hx
  ·exact QBw h _ x hx
  ·exact Cd c b _ (h.stp c (p:=y.1) (hi y ze)) (λz d=>hi z (zp _ d)) x hx
theorem rN(M:Int):∀(a b:List It3) (s:Sta),rn M s (a++b)=((rn M (rn M s a).1 b).1,(rn M s a).2++(rn M (rn M s a).1 b).2)
 | [],b,s=>rfl
 |x::a,b,s=>by
  show((rn M _ (a++b)).1,due M s x.2.1++(rn M _ (a++b)).2)=_;rw[rN M a b];show _=(_,(due M s x.2.1++_)++_);rw[zH];rfl
def lwO(b:List Nat)(ds:List Du):List Nat:=(ds.map (·.2)).getLastD b
def Ce(c:List Nat)(a b:List Du):lwO c (a++b)=lwO (lwO c a) b:=by
 unfold lwO;rw[zN]
 cases b with
 |nil=>simp
 |cons x b=>simp[List.getLastD_eq_getLast?,List.getLast?_append,List.getLast?_cons]
def QBl(M:Int)(s:Sta)(b k:List Nat):lwS M s b k=lwO b (due M s k):=by
 have c:=vV M s k;unfold lwS lwO
 generalize due M s k=d at *
 match d,c with
 | [],_=>rfl
 | [(_,_)],_=>rfl
 | _::_::_,h=>simp at h
def unI:D->It3
 | .tup [.int p,.str k,.str v]=>(p,k,v)
 | _=>(0,[],[])
def Cg(l:List It3):(l.map itD).map unI=l:=by
 rw[zR]
 exact List.map_id' _ |>.symm ▸ (jd λ_ _=>rfl)
def sI(t:List Nat):List It3:=(aQ [] 0 t).1.map unI
def hI(t:List Nat):List It3:=(owns (t.length - (aQ [] 0 t).2.length) (aQ [] 0 t).2).map unI
structure SI(t:List Nat):Prop where
 s:(aQ [] 0 t).1=(sI t).map itD
 h:owns (t.length - (aQ [] 0 t).2.length) (aQ [] 0 t).2=(hI t).map itD
 i:∀x∈sI t++hI t,Itm x.2.1 x.2.2
 l:(sI t++hI t).length<=t.length
 a:items 0 t=(sI t++hI t).map itD
 H:bK (aQ [] 0 t).2
def si{t:List Nat}(u:Okt t):SI t:=by
 obtain⟨E,e,y,x⟩:=LR t.length t 0 (zc _) (λc C=>by have:=u.ok c C;omega);obtain⟨H,q⟩:=Qxc t;have e':=e;rw[q] at e';obtain⟨a,b,rfl,m,j⟩:=List.map_eq_append_iff.mp e'.symm
 have f:sI t=a:=by unfold sI;rw[<-m,Cg]
 have d:hI t=b:=by unfold hI;rw[<-j,Cg]
 refine⟨by rw[f,m],by rw[d,j],?_,?_,?_,H⟩
 all_goals rw[f,d]
 ·exact y
 ·exact x
 ·exact e
def jI(t p:List Nat):List It3:=(aQ (aQ [] 0 t).2 (t.length) p).1.map unI
def Ci{t p:List Nat}(h:Okt (t++p)):sI (t++p)=sI t++jI t p/\(aQ (aQ [] 0 t).2 (t.length) p).1=(jI t p).map itD/\(aQ [] 0 (t++p)).2=(aQ (aQ [] 0 t).2 (t.length) p).2:=by
 have e:=Lp t [] 0 p;rw[Int.zero_add] at e
 have c:sI (t++p)=sI t++jI t p:=by unfold sI jI;rw[e,zN]
 have q:=(si h).s;rw[c,e] at q;refine⟨c,?_,by rw[e]⟩;obtain⟨a,b,j,f,d⟩:=List.map_eq_append_iff.mp q.symm
 have:jI t p=b:=by unfold jI;rw[<-d,Cg]
 rw[this,d]
def o9(x:List LT×List Nat):Prop:=(∀y∈x.1,OkL y)/\(x.2=bD\/x.2=cD)
def TD(O:au)(o:Nat):List D->List Du->Prop
 | [],[]=>True
 |d::T,x::Ds=>(∃n,d=.tup [.ob n,.str x.2]/\Old O o n (x.1.map dL))/\o9 x/\TD O o T Ds
 | _,_=>False
theorem TD.keeps{O c:au}{o:Nat}(k:Keeps O c o):∀{T:List D}{b:List Du},TD O o T b->TD c o T b
 | [],[],_=>True.intro
 |d::T,x::b,h=>by
  obtain⟨⟨n,e,j⟩,m,f⟩:=h;exact⟨⟨n,e,k.1 n _ j⟩,m,TD.keeps k f⟩
 | [],_::_,h=>h.elim
 | _::_,[],h=>h.elim
theorem TD.app{O:au}{o:Nat}{f:List D}{b:List Du}(h':TD O o f b):∀{T:List D}{c:List Du},TD O o T c->TD O o (T++f) (c++b)
 | [],[],_=>h'
 |d::T,x::c,h=>⟨h.1,h.2.1,TD.app h' h.2.2⟩
 | [],_::_,h=>h.elim
 | _::_,[],h=>h.elim
theorem TD.len{O:au}{o:Nat}:∀{T:List D}{b:List Du},TD O o T b->T.length=b.length
 | [],[],_=>rfl
 |d::T,x::b,h=>by simp[TD.len h.2.2]
 | [],_::_,h=>h.elim
 | _::_,[],h=>h.elim
def QxB   {M:Int}    {du:List Du}(m:Mk O o M c s)(p:Prt O told du)(sp:Sep O o told):TD O o told du:=by
 rcases p with⟨rfl,rfl⟩ | ⟨n,r,w,rfl,rfl,h3,h4,b,_⟩
 ·exact True.intro
 ·obtain⟨k,e,_⟩:=m;exact⟨⟨n,rfl,oX h3 e (sp n w rfl _ _ _ _ _ _ e)⟩,⟨b,h4⟩,True.intro⟩
def TE(O:au):List D->List Du->Prop
 | [],[]=>True
 |d::T,x::Ds=>(∃n,d=.tup [.ob n,.str x.2]/\O[n]?=some (.ml (x.1.map dL)))/\o9 x/\TE O T Ds
 | _,_=>False
theorem TD.te{O:au}{o:Nat}:∀{T:List D}{b:List Du},TD O o T b->TE O T b
 | [],[],_=>True.intro
 |d::T,x::b,h=>by
  obtain⟨⟨n,e,f⟩,j,c⟩:=h;exact⟨⟨n,e,f.1⟩,j,TD.te c⟩
 | [],_::_,h=>h.elim
 | _::_,[],h=>h.elim
def orb{T U:L2.M Bool}{ρ:aM}{O:au}{b c:Bool}(h:T ρ O=.ok b O)(h2:U ρ O=.ok c O):bL T U ρ O=.ok (b || c) O:=by
 rw[lB,h,aO,h2];cases b<;>rfl
def wB{m:L2.M D}{ρ:aM}{O:au}{b:Bool}(h:m ρ O=.ok (.bl b) O):bj m ρ O=.ok b O:=by rw[iR,h];rfl
def QuI{O:au}{o:Nat}{M:Int}{f:List Nat}{s:Sta}(h:Mk O o M f s)(hok:∀x∈s.row,OkL x)(F:s.row.length<=1000):∃u told,yO [.ob o] O=.ok (.lst told) u/\Mk u o M (if s.row≠[]\/f=cD then bD else f) ⟨[],false,46,46⟩/\Prt u told (if s.row≠[]\/f=cD then[(s.row,bD)] else[])/\Keeps O u o:=by
 obtain⟨n,e,y⟩:=h;have E:(bL (az (ak gGt (aK aP (aj (aX ["Maker"] "letters" (aa 0)) ao)) (mC (.int 0)))) (bj (aN "Maker" "going_on" u0 (aa 0) ao))) [some (.ob o),some (.lst [])] O=.ok (decide (s.row≠[]\/f=cD)) O :=
  (orb (b:=decide (s.row≠[])) (.trans (cT (aY (iW (ma1 (fL e)) (by rw[zg,iy y];rfl)) rfl rfl)) (by rw[zd];cases s.row<;>simp)) (wB ((dz rfl e rfl rfl).trans (Qwh e)))).trans (by rw[Bool.decide_or])
 by_cases j:s.row≠[]\/f=cD
 ·rw[if_pos j,if_pos j];have C:=BX (w:=bD) e;obtain⟨d,c⟩:∃d,d=(O++[Ob.ml []]).set o (mkO M bD O.length s.i s.g s.st):=⟨_,rfl⟩
  have m:d[o]?=some (mkO M bD O.length s.i s.g s.st):=by rw[c];exact gs' (ap1 e)
  have q:d[n]?=some (.ml (s.row.map dL)):=by rw[c,zh (iz e y)];exact ap1 y
  rw[<-c] at C;exact⟨(d++[Ob.ml []]).set o (mkO M bD d.length 46 46 false),[.tup [.ob n,.str bD]],cU (b:=yN) (ρ:=[some (.ob o),none]) (.trans (sq rfl) (.trans (sq (.trans (dG (E.trans (by rw[zu j]))) (vH ((dz rfl e rfl rfl).trans C)))) (.trans (sq (drp ((dz rfl m rfl rfl).trans (Lz m)))) rfl))),⟨d.length,gs' (ap1 m),by rw[zh (zq (fj m))];exact apN⟩,.inr ⟨n,s.row,bD,rfl,rfl,by rw[zh (iz m q)];exact ap1 q,.inl rfl,hok,F⟩,(c ▸ oY e:Keeps O d o).trans (oY m)⟩
 ·rw[if_neg j,if_neg j];exact⟨(O++[Ob.ml []]).set o (mkO M f O.length 46 46 false),[],cU (b:=yN) (ρ:=[some (.ob o),none]) (.trans (sq rfl) (.trans (sq (cI (E.trans (by rw[zk j])))) (.trans (sq (drp ((dz rfl e rfl rfl).trans (Lz e)))) rfl))),⟨O.length,gs' (ap1 e),by rw[zh (zq (fj e))];exact apN⟩,.inl ⟨rfl,rfl⟩,oY e⟩
def cY          (b:mo ρ O=.ok (.ob n) O1)(j:O1[n]?=some (.ins c fs))(d:(fs.lookup m).isNone=true)(f:ma ρ O1=.ok ds q):
  aN c m cf mo ma ρ O=cf (.ob n::ds) q:=by
 rw[uI,b];unfold meF
 dsimp
 rw[j]
 dsimp
 rw[if_pos ⟨rfl,d⟩,f,aO]
def Mh      (h:m ρ O=.ok (.lst es) O1)(c:ρ[i]?=some (some (.lst ds)))(b:ds.length+es.length<=1000000):gD i m ρ O=.nx (ρ.set i (some (.lst (ds++es)))) O1:=by
 rw[Ij,h,Ik c b]
def Fr(O b:au)(S:List Nat):Prop:=∀(m:Nat) (x:Ob),m∉S->O[m]?=some x->b[m]?=some x
def Fr.trans{O O1 d:au}{S T U:List Nat}(a:Fr O O1 S)(b:Fr O1 d T)(hs:∀x∈S,x∈U)(f:∀x∈T,x∈U):Fr O d U:=λm x c h=>b m x (λz=>c (f _ z)) (a m x (λz=>c (hs _ z)) h)
def Fr.set{O:au}{n:Nat}{y:Ob}:Fr O (O.set n y) [n]:=λm x b h=>by
 rw[zh (λz=>b (by rw[z];exact List.mem_singleton_self _))];exact h
def Kp.fr{O b:au}(k:Kp O b):Fr O b []:=λm x _ h=>k m x h
def MkA(O:au)(o n:Nat)(M:Int)(b:List Nat)(s:Sta):Prop:=O[o]?=some (mkO M b n s.i s.g s.st)/\O[n]?=some (.ml (s.row.map dL))
def MkA.mk{O:au}{o n:Nat}{M:Int}{b:List Nat}{s:Sta}(h:MkA O o n M b s):Mk O o M b s:=⟨n,h⟩
def Keeps.fr{O d:au}{o n:Nat}{M:Int}{f:List Nat}{s:Sta}(k:Keeps O d o)(h:MkA O o n M f s):Fr O d [o,n]:=λm x c hx=>by
 by_cases z:∃b,x=.ml b
 ·obtain⟨b,rfl⟩:=z;exact(k.1 m b (oX hx h.1 (λe=>c (by rw[e];simp)))).1
 ·exact k.2 m x (λe=>c (by rw[e];simp)) (λb e=>z ⟨b,e⟩) hx
def Nw(O:au)(n b:Nat):Prop:=∀(m:Nat) (c:List D),m≠n->O[m]?=some (.ml c)->b≠m
def Keeps.nw{O f:au}{o n:Nat}{M:Int}{q c:List Nat}{s j:Sta}(k:Keeps O f o)(h:MkA O o n M q s)(h':Mk f o M c j):∃d,MkA f o d M c j/\Nw O n d:=by
 obtain⟨d,a,b⟩:=h';exact⟨d,⟨a,b⟩,λm x e u=>(k.1 m x (oX u h.1 (Ne.symm e))).2 _ _ _ _ _ _ a⟩
def j4(nm:List Nat)(rd mk:Nat)(c:Bool):Ob:=.ins "Hand" [("name",.str nm),("reader",.ob rd),("maker",.ob mk),("closed",.bl c)]
theorem Mi{rd mk:Nat}{c:Bool}{nm:List Nat}{M:Int}(F:1<=M/\M<=200)(a1:Option D):∀(b:List It3) (O:au) (u:List Nat) (s:Sta) (T:List D) (E:List Du) (m:Option D),(∀x∈b,Itm x.2.1 x.2.2)->T.length+b.length<=10000->O[hd]?=some (j4 nm rd mk c)->Mk O mk M u s->OkS M s->TD O mk T E ->
  ∃f C d,bB (mgN 3) (gD 2 (aN "Maker" "put" qO (aX ["Hand"] "maker" (aa 0)) (aj (aa 3) ao))) (b.map itD) [some (.ob hd),a1,some (.lst T),m] O=.nx [some (.ob hd),a1,some (.lst C),d] f/\Mk f mk M (lwO u (rn M s b).2) (rn M s b).1/\TD f mk C (E++(rn M s b).2)/\Keeps O f mk
 | [],O,u,s,T,E,m,_,_,_,h,_,td=>⟨O,T,m,rfl,h,by simpa [rn] ,Keeps.refl⟩
 |x::b,O,u,s,T,E,m,hi,hl,hh,h,hs,td=>by
  have it:=hi x ze;rw[zz] at hl;obtain⟨P,told,q,G,I,sp,kp⟩:=QBf h hs F.2 it;obtain⟨n,e,_⟩:=id h;have j:=QxB G I sp;have tl:=j.len;have R:=vV M s x.2.1;obtain⟨f,C,d,L,h2,h3,h4⟩:=Mi F a1 _ P _ _ _ _ _ (λy J=>hi y (zp _ J)) (by rw[zf];omega) (kp.2 hd _ (λz=>by rw[z,e] at hh;cases hh) (λQ z=>nomatch z) hh) G (hs.stp F.1 it) (TD.app j (td.keeps kp));rw[QBl,<-Ce] at h2;rw[zH] at h3;refine⟨f,C,d,(jY (ρ1:=[some _,a1,some _,some _]) rfl (Mh ((cY (dw rfl hh ze rfl) e rfl (ma1 rfl)).trans q) rfl (by omega))).trans L,h2,h3,kp.trans h4⟩
def Mj    {M:Int}(q:1<=M/\M<=200)    (j:∀x∈C,Itm x.2.1 x.2.2)(y:C.length<=5000)(m:O[hd]?=some (j4 nm rd mk c))(h:MkA O mk n M E s)(hs:OkS M s):
  ∃d f T,vd [.ob hd,.lst (C.map itD)] O=.ok (.lst T) d/\MkA d mk f M (lwO E (rn M s C).2) (rn M s C).1/\Nw O n f/\TD d mk T (rn M s C).2/\Fr O d [mk,n]:=by
 obtain⟨d,T,u,e,h1,h2,h3⟩:=Mi q _ _ O E s [] [] _ j (by simp;omega) m h.mk hs True.intro;obtain⟨f,a,b⟩:=h3.nw h h1;refine⟨d,f,T,cU ?_,a,b,h2,h3.fr h⟩;exact(bc (bw rfl)).trans ((bc (lL (eZ rfl) e)).trans rfl)
def cls:Ob->Str
 | .ins c _=>c
 | _=>""
def aR{O:au}{i:Nat}  (c d:Str)(h1:O[i]?=some x)(h2:O[j]?=some y)(hx:cls x=c:=by rfl)(b:cls y=d:=by rfl)(h:c≠d:=by decide):i≠j:=λz=>by
 rw[z,h2] at h1;rw[<-zC h1,b] at hx;exact h hx.symm
def bx{a:Nat}(h:a≠b):a∉[b]:=λz=>h (zm.mp z)
def j5{a:Nat}(h:a≠b)(h2:a≠c):a∉[b,c]:=λz=>by simp at z;omega
def HnA(O:au)(M:Int)(hd rd mk n:Nat)(nm t:List Nat):Prop:=O[hd]?=some (j4 nm rd mk false)/\O[rd]?=some (RO (aQ [] 0 t).2 t.length)/\MkA O mk n M (lwO bD (rn M s0 (sI t)).2) (rn M s0 (sI t)).1
def MkA.fr{O c:au}{o n:Nat}{M:Int}{b:List Nat}{s:Sta}{S:List Nat}(h:MkA O o n M b s)(f:Fr O c S)(h1:o∉S)(h2:n∉S):MkA c o n M b s:=⟨f _ _ h1 h.1,f _ _ h2 h.2⟩
def Ml    (h:O[hd]?=some (j4 nm rd mk false)):u9 [.ob hd] O=.ok .non O:=by
 show bu _=_;unfold Jz;rw[cI (vI (dw rfl h ze rfl))];rfl
def Cj     (h:m ρ O=.ok d O1):fC m ρ O=.nx ρ O1:=by rw[qy,h,uE]
def lM{M:Int}(b:1<=M)  (c:Okt t):OkS M (rn M s0 (sI t)).1:=(iZ b _ s0 (lK b) λx hx=>(si c).i x (jk _ hx)).1
def QvM  {M:Int}   (P:1<=M/\M<=200)(h:HnA O M hd rd mk n nm t)(L:Okt t)(W:Okt p)(j:Okt (t++p)):
  ∃q E T,yQ [.ob hd,.str p] O=.ok (.lst T) q/\HnA q M hd rd mk E nm (t++p)/\Nw O n E/\TE q T (rn M (rn M s0 (sI t)).1 (jI t p)).2/\Fr O q [rd,mk,n]:=by
 obtain⟨c,d,u⟩:=h;have S:=si L;obtain⟨G,U,R⟩:=Ci j;have Q:=si j;have f:=QyC d S.H p W;have F:Fr O (O.set rd (RO (aQ (aQ [] 0 t).2 t.length p).2 (t.length+p.length))) _:=Fr.set;have y :=aR "Maker" "Reader" u.1 d;have J :=aR "" "Reader" u.2 d;have C:=F _ _ (bx (aR "Hand" "Reader" c d)) c
 obtain⟨q,E,T,e,a,b,te,fr⟩:=Mj P (λx hx=>Q.i x (jk _ (by rw[G];exact zS _ hx))) (by
  have l:=Q.l
  have:=j.len
  rw[zf,G,zf] at l
  omega) C (u.fr F (bx y) (bx J)) (lM P.1 L)
 have I:=fr rd _ (j5 (Ne.symm y) (Ne.symm J)) (gs d);refine⟨q,E,T,cU ?_,⟨fr hd _ (j5 (aR "Hand" "Maker" c u.1) (aR "Hand" "" c u.2)) C,?_,?_⟩,λm X h1 h2=>b m X h1 (F m _ (bx (aR "" "Reader" h2 d)) h2),te.te,F.trans fr (by simp) (by simp)⟩
 ·refine(bc (Cj ((cY rfl c rfl rfl).trans (Ml c)))).trans (fc (cY rfl c rfl (fZ ((cY (dw rfl c ze rfl) d rfl (ma1 rfl)).trans (f.trans (by rw[U])))) |>.trans e))
 ·rw[R,zf];exact I
 ·rw[G,rN,Ce];exact a
theorem TE.fr{O j:au}{S:List Nat}(f:Fr O j S)(hs:∀(m:Nat) (ds:List D),O[m]?=some (.ml ds)->m∉S):∀{T:List D}{b:List Du},TE O T b->TE j T b
 | [],[],_=>True.intro
 |d::T,x::b,h=>by
  obtain⟨⟨n,e,c⟩,u,q⟩:=h;exact⟨⟨n,e,f n _ (hs n _ c) c⟩,u,TE.fr f hs q⟩
 | [],_::_,h=>h.elim
 | _::_,[],h=>h.elim
theorem TE.app{O:au}{f:List D}{b:List Du}(h':TE O f b):∀{T:List D}{c:List Du},TE O T c->TE O (T++f) (c++b)
 | [],[],_=>h'
 |d::T,x::c,h=>⟨h.1,h.2.1,TE.app h' h.2.2⟩
 | [],_::_,h=>h.elim
 | _::_,[],h=>h.elim
theorem TE.len{O:au}:∀{T:List D}{b:List Du},TE O T b->T.length=b.length
 | [],[],_=>rfl
 |d::T,x::b,h=>by simp[TE.len h.2.2]
 | [],_::_,h=>h.elim
 | _::_,[],h=>h.elim
def Prt.te{O:au}{told:List D}{du:List Du}(p:Prt O told du):TE O told du:=by
 rcases p with⟨rfl,rfl⟩ | ⟨n,r,w,rfl,rfl,h3,h4,b,_⟩
 ·exact True.intro
 ·exact⟨⟨n,rfl,h3⟩,⟨b,h4⟩,True.intro⟩
def HnC(O:au)(M:Int)(hd rd mk n:Nat)(nm:List Nat):Prop:=O[hd]?=some (j4 nm rd mk true)/\(∃p,O[rd]?=some (RO [] p))/\∃b,MkA O mk n M b ⟨[],false,46,46⟩
def lstP(M:Int)(t:List Nat):List Du:=if(rn M s0 (sI t++hI t)).1.row≠[]\/lwO bD (rn M s0 (sI t++hI t)).2=cD then[((rn M s0 (sI t++hI t)).1.row,bD)] else[]
def QsW  {M:Int}   (I:1<=M/\M<=200)(h:HnA O M hd rd mk n nm t)(U:Okt t):
  ∃W n' T,yR [.ob hd] O=.ok (.lst T) W/\HnC W M hd rd mk n' nm/\Nw O n n'/\TE W T ((rn M (rn M s0 (sI t)).1 (hI t)).2++lstP M t)/\Fr O W [hd,rd,mk,n]:=by
 obtain⟨u,C,j⟩:=h;have S:=si U;have f:=QuJ C S.H;have J:Fr O (O.set rd (RO [] t.length)) [rd]:=Fr.set;have P:mk≠rd:=aR "Maker" "Reader" j.1 C;have nn:n≠rd:=aR "" "Reader" j.2 C;have R:=J _ _ (bx (aR "Hand" "Reader" u C)) u
 have hi :=λx hx=>S.i x (zS _ hx)
 have hl:=S.l;have hl2:=U.len;rw[zf] at hl;obtain⟨O2,n2,T,e,a,b,td,fr⟩:=Mj I hi (by omega) R (j.fr J (bx P) (bx nn)) (lM I.1 U);have E:=fr rd _ (j5 (Ne.symm P) (Ne.symm nn)) (gs C);have d:=fr hd _ (j5 (aR "Hand" "Maker" u j.1) (aR "Hand" "" u j.2)) R;have ok:=iZ I.1 _ s0 (lK I.1) S.i;have ra:=rN
 have L:OkS M (rn M (rn M s0 (sI t)).1 (hI t)).1:=by
  have:=ok.1
  rw[ra] at this;exact this
 obtain⟨O3,told,q,m3,p3,Y⟩:=QuI a.mk L.ok (by have:=L.len;omega);obtain⟨n3,Z,b3⟩:=Y.nw a m3;have G:=Y.fr a;have c:=G hd _ (j5 (aR "Hand" "Maker" d a.1) (aR "Hand" "" d a.2)) d;have Q:=G rd _ (j5 (aR "Reader" "Maker" E a.1) (aR "Reader" "" E a.2)) E;have X:Fr O3 (O3.set hd (j4 nm rd mk true)) [hd]:=Fr.set;have tl:=td.len;have dl:=(iZ I.1 (hI t) _ (lM I.1 U) hi).2
 have tl2:told.length<=1:=by
  rw[p3.te.len]
  split<;>simp
 have te:TE O3 (T++told) ((rn M (rn M s0 (sI t)).1 (hI t)).2++lstP M t):=by
  unfold lstP;rw[ra,Ce];exact TE.app p3.te (td.keeps Y).te
 refine⟨_,n3,T++told,cU ?_,⟨gs c,⟨_,X _ _ (bx (aR "Reader" "Hand" Q c)) Q⟩,_,Z.fr X (bx (aR "Maker" "Hand" Z.1 c)) (bx (aR "" "Hand" Z.2 c))⟩,λm ds h1 h2=>?_,TE.fr X (λm ds j=>bx (aR "" "Hand" j c)) te,?_⟩
 ·refine(bc (Cj ((cY rfl u rfl rfl).trans (Ml u)))).trans ?_;refine(bc (mQ (cY (n:=hd) rfl u rfl (fZ ((cY (n:=rd) (dw (n:=hd) rfl u ze rfl) C rfl rfl).trans (f.trans (by rw[S.h])))) |>.trans e))).trans ?_;refine(bc (Mh (ds:=T) ((cY (n:=mk) (dw (n:=hd) rfl d ze rfl) a.1 rfl rfl).trans q) rfl (by omega))).trans ?_;exact(bc (iw (n:=hd) rfl rfl c ze (by show 4<900;decide))).trans rfl
 ·have z:=J m _ (bx (aR "" "Reader" h2 C)) h2;exact b3 m ds (Ne.symm (b m ds h1 z)) (fr m _ (j5 (aR "" "Maker" h2 j.1) h1) z)
 ·intro m x hx F;simp only[zl,List.not_mem_nil,or_false,not_or] at hx;have z:=fr m x (j5 hx.2.2.1 hx.2.2.2) (J m x (bx hx.2.1) F)
  by_cases y:m=n2
  ·have e':=a.2;rw[<-y,z] at e';rw[zC e'] at F;exact absurd y.symm (b m _ hx.2.2.2 (J m _ (bx hx.2.1) F))
  ·exact X m x (bx hx.1) (G m x (j5 hx.2.2.1 y) z)
def Ck     (h:m ρ O=.ok (.int i) O):moS m ρ O=.ok (some i) O:=by rw[QB9,h,aO,QAJ]
def Cm     (c:a ρ O=.ok (.str i) O)(hb:b ρ O=.ok (.str j) O):az (ak gEq a b) ρ O=.ok (decide (i=j)) O:=cT (aY c hb rfl)
def Cq       (c:m ρ O=.ok (.str t) O)(d:a ρ O=.ok x O)(hb:b ρ O=.ok y O)(hz:t.length<=1000000):mSl m a b ρ O=.ok (.str (cz t x y)) O:=by
 rw[QCW,c,aO,d,aO,hb,aO,lz,Hv,if_pos (by omega),gW]
theorem Cr{α:Type}(f:α->Int):∀l:List α,eV (l.map λx=>.int (f x))=some (l.map f)
 | []=>rfl
 |x::l=>by
  show(eV _).map _=_;rw[Cr ];rfl
structure NOk(n:List Nat):Prop where
 l1:1<=n.length
 l8:n.length<=8
 ok:∀c∈n,97<=c/\c<=122
structure Nms(N:List (List Nat)):Prop where
 ok:∀n∈N,NOk n
 ne:N≠[]
 l4:N.length<=4
 nd:N.Nodup
def wd:List (List Nat)->Nat
 | []=>0
 |n::r=>max n.length (wd r)
theorem Cu:∀{N:List (List Nat)}{n:List Nat},n∈N->n.length<=wd N
 |m::r,n,h=>by
  rcases zl.mp h with rfl | h
  ·exact Nat.le_max_left _ _
  ·exact zG (Cu h) (Nat.le_max_right _ _)
theorem Cv:∀{N:List (List Nat)},N≠[]->∃n∈N,n.length=wd N
 | [m],_=>⟨m,by simp[wd]⟩
 |m::k::r,_=>by
  obtain⟨n,h1,h2⟩:=Cv (N:=k::r) (by simp);unfold wd
  rcases Nat.le_total _ _ with h | h
  ·exact⟨n,zp _ h1,by rw[Nat.max_eq_right h];exact h2⟩
  ·exact⟨m,ze,by rw[Nat.max_eq_left h]⟩
def wd8  (h:Nms N):wd N<=8:=by
 obtain⟨n,h1,h2⟩:=Cv h.ne;rw[<-h2];exact(h.ok n h1).l8
def dNm(N:List (List Nat)):D:=.lst (N.map D.str)
def QBr  (h:Nms N)    (c:ρ[i]?=some (some (dNm N))):aK nP (aj (b7 (bF (aa i)) 1 [] (mgN 0) bN (aK aP (aj (aa 0) ao))) ao) ρ O=.ok (.int (wd N:Int)) O:=by
 have z:=iU (g:=mgN 0) (t:=bN) (m:=aK _ (aj (aa 0) _)) (λρ=>∃a,ρ=[a]) D.str _ N _ O [] ⟨none,rfl⟩ (by
  rintro y hy ρ ⟨a,rfl⟩
  exact⟨_,rfl,⟨_,rfl⟩,rfl,rG rfl (by have:=(h.ok y hy).l8;omega)⟩)
 rw[zO] at z;have l4:=h.l4
 have f:b7 (bF (aa i)) 1 [] (mgN 0) bN (aK aP (aj (aa 0) ao)) ρ O=.ok (.lst (N.map λn=>.int n.length)) O:=by
  rw[qF,ou,fV,c];show(if(N.map _).length<=1000000 then _ else _)=_;rw[if_pos (by rw[zd];omega),show eU 1 [] ρ=[none] from rfl,z,aO]
 refine iW (ma1 f) ?_;show nP [.lst _]=_;unfold nP
 dsimp
 rw[Cr]
 dsimp
 obtain⟨n,h1,h2⟩:=Cv h.ne
 rw[xN (zA.mpr ⟨n,h1,by rw[h2]⟩) λa d=>by
  obtain⟨m,b,rfl⟩:=zA.mp d
  have:=Cu b
  omega]
 rfl
def pad(w:Nat)(n:List Nat):List Nat:=n++List.replicate (w - n.length) 32
def Mm   (h:n∈N):(pad (wd N) n).length=wd N:=by
 have:=Cu h
 unfold pad;rw[zf,List.length_replicate];omega
def kW:List Nat:=[119,104,111,108,101]
def QzH  (h:Nms N)  (c:n∈N)(W:List Nat)(O:au):vo [.str n,dNm N,.str W] O=.ok (.str (pad (wd N) n++[if W=kW then 124 else 62])) O:=by
 have q:=wd8 h;have u:=Mm c;show bu _=_;unfold JQ;rw[fH (bw (QBr h rfl))];refine congrArg bu (a₂:=.rt _ O) ?_
 have m:uw (mG (aa 0)) (aa 3) [some (.str n),some (dNm N),some (.str W),some (.int (wd N))] O=.ok (.str (pad (wd N) n)) O:=by
  unfold uw;rw[show mG _ _ O=.ok _ O from rfl,aO,show aa 3 _ O=.ok _ O from rfl,aO]
  dsimp
  rw[if_pos (by omega)];rfl
 have f:mIf (az (ak gEq (aa 2) (mC (.str [119,104,111,108,101])))) (mC (.str [124])) (mC (.str [62])) [some (.str n),some (dNm N),some (.str W),some (.int (wd N))] O=.ok (.str [if W=kW then 124 else 62]) O:=by
  rw[lC,Cm (j:=kW) rfl rfl]
  by_cases b:W=kW
  ·rw[zu b,if_pos b];rfl
  ·rw[zk b,if_neg b];rfl
 rw[dF];have d:=jZ m f (by rw[zM];omega);exact congrArg _ d
def slT{a:Nat}(c:m ρ O=.ok (.str t) O)(b:q ρ O=.ok (.int (a:Int)) O)(hz:t.length<=1000):mSl m moN (moS q) ρ O=.ok (.str (t.take a)) O:=(Cq c rfl (Ck b) (by omega)).trans (by rw[Lj])
def add_n(c:m ρ O=.ok (.int (a:Int)) O)(hb:q ρ O=.ok (.int (b:Int)) O):ak aJ m q ρ O=.ok (.int ((a+b:Nat):Int)) O:=(jW c hb).trans (by rfl)
def Cw   (h:T ρ O=.ok true O)(h2:m ρ O=.ok d O):aD T (aA m) aG ρ O=.rt d O:=(dG h).trans (by rw[dF,h2];rfl)
def rP   (h:T ρ O=.ok false O):aD T x aG ρ O=.nx ρ O:=cI h
def Cy  (b:m ρ O=.ok (.int i) O)(hb:q ρ O=.ok (.int j) O)(h:i=j):az (ak gEq m q) ρ O=.ok true O:=(mO b hb).trans (by rw[zu h])
def eq_n  (b:m ρ O=.ok (.int i) O)(hb:q ρ O=.ok (.int j) O)(h:¬i=j):az (ak gEq m q) ρ O=.ok false O:=(mO b hb).trans (by rw[zk h])
def dY  (b:m ρ O=.ok (.int c) O)(hb:q ρ O=.ok (.int k) O)(h0:0<=k)(h1:k<=1000000):aC cN (aj m (aj q ao)) ρ O=.ok (.int (mix c k)) O:=(bA (maS b (ma1 hb))).trans (QAA c k h0 h1 O)
def rQ(v:Int){n:Nat}(h:0<n):∃a:Nat,v % (n:Int)=(a:Int)/\a<n:=⟨(v % n).toNat,by have:=jt v (b:=n);have:=ju v (b:=n);omega⟩
def abc:List Nat:=[97,98,99,100,101,102,103,104,105,106,107,108,109,110,111,112,113,114,115,116,117,118,119,120,121,122]
def Qzq:∀i:Nat,i<26->abc[i]?=some (97+i):=by decide
def Mp{i:Nat}(h:i<26):gIx (.str abc) (.int (i:Int))=some (.str [97+i]):=by
 rw[HS,qG,Qzq i h];rfl
def lb(c:Int)(k:Nat):Nat:=97+(mix c (20+(0+(k:Int))) % 26).toNat
theorem Mq{α:Type}(f:α->Nat):∀l:List α,(l.map λi=>[f i]).flatten=l.map f
 | []=>rfl
 |x::l=>by rw[zg,List.flatten_cons,Mq ];rfl
theorem Mr{α:Type}(f:α->Nat):∀l:List α,((l.map λi=>[f i]).map List.length).sum=l.length
 | []=>rfl
 |x::l=>by rw[zg,zg,List.sum_cons,Mr ];simp;omega
def Ms   {ρc:aM}   (c:eU 1 cap ρ=none::ρc)(b:∀k:Nat,k<8->e (some (.int (0+(k:Int)))::ρc) O=.ok (.str [g k]) O):lX (b7 (gw (aj (mC (.int 8)) ao)) 1 cap (mgN 0) bN e) ρ O=.ok (.str ((List.range 8).map g)) O:=by
 have z:=iU (g:=mgN 0) (t:=bN) (λρ=>∃a,ρ=a::ρc) _ _ _ _ O [] ⟨none,rfl⟩ (by
  rintro k hk ρ ⟨a,rfl⟩
  exact⟨_,rfl,⟨_,rfl⟩,rfl,b k (List.mem_range.mp hk)⟩)
 rw[zO] at z;rw[QxV,qF,c];show((cj _ _ _ ((List.range 8).map _) _ O []).bind _).bind _=_;rw[z,aO,aO,nW,QA6,Ib,Qte,Mr,if_pos (by decide),Mq]
def Qvm(c:Int):((List.range 8).map (lb c)).length=8/\∀x∈(List.range 8).map (lb c),97<=x/\x<=122:=by
 refine⟨by simp,λx hx=>?_⟩;obtain⟨k,_,rfl⟩:=zA.mp hx;unfold lb;omega
def nA(base:List Nat)(k:Nat):List Nat:=base.take (8 - k)
def nB(base:List Nat)(a s f k:Nat):List Nat:=base.take a++[97+(f+k)]++(base.drop (a+1)).take (s - (a+1))
def Mt  (h1:1<=m)(h4:m<=4)  (ok:∀k,k<m->NOk (g k))(ne:∀j k,j<k->k<m->g j≠g k):Nms ((List.range m).map g):=by
 refine⟨λn c=>?_,?_,by simpa ,?_⟩
 ·obtain⟨k,d,rfl⟩:=zA.mp c;exact ok k (List.mem_range.mp d)
 ·intro z
  have:=congrArg List.length z
  simp at this
  omega
 ·show List.Pairwise _ _;rw[List.pairwise_map];exact List.Pairwise.imp_of_mem (λ{a b} ha hb hab=>ne a b hab (List.mem_range.mp hb)) List.pairwise_lt_range
def Nms.rev  (h:Nms N):Nms N.reverse:=⟨λn c=>h.ok n (List.mem_reverse.mp c),by simpa using h.ne,by simpa using h.l4,List.pairwise_reverse.mpr (List.Pairwise.imp (λ{a b} z=>Ne.symm z) h.nd)⟩
def QBd  (c:base.length=8)(hb:∀x∈base,97<=x/\x<=122)  (h1:1<=m)(h4:m<=4):Nms ((List.range m).map (nA base)):=Mt h1 h4 (λk b=>⟨by unfold nA;rw[List.length_take];omega,by unfold nA;rw[List.length_take];omega,λx hx=>hb x (List.mem_of_mem_take hx)⟩) λj k d b e=>by
 have:=congrArg List.length e
 unfold nA at this;rw[List.length_take,List.length_take] at this;omega
def QAP  (d:base.length=8)(hb:∀x∈base,97<=x/\x<=122)  (y:a<s)(hs:s<=8)(u:f<20)  (h1:1<=m)(h4:m<=4):Nms ((List.range m).map (nB base a s f)):=by
 have len:∀k,(nB base a s f k).length=s:=λk=>by
  unfold nB;rw[zf,zf,List.length_take,List.length_take,List.length_drop,zM];omega
 have b:∀k,(nB base a s f k)[a]?=some _:=λk=>by
  unfold nB;rw[zH,zK (by rw[List.length_take];omega),List.length_take,show a - min a _=0 by omega];rfl
 refine Mt h1 h4 (λk c=>⟨by rw[len];omega,by rw[len];omega,λx hx=>?_⟩) λj k q c e=>?_
 ·rcases zB.mp hx with hx | hx
  ·rcases zB.mp hx with hx | hx
   ·exact hb x (List.mem_of_mem_take hx)
   ·rw[zm.mp hx];omega
  ·exact hb x (List.mem_of_mem_drop (List.mem_of_mem_take hx))
 ·have h1:=b j;rw[e,b] at h1
  have:=zC h1
  omega
def Cz  (d:m<=4)   {ρc:aM}   (h1:ρ[1]?=some (some (.int (m:Int))))(c:eU 1 cap ρ=none::ρc)(b:∀k,k<m->e (some (.int (0+(k:Int)))::ρc) O=.ok (.str (g k)) O):b7 (gw (aj (aa 1) ao)) 1 cap (mgN 0) bN e ρ O=.ok (dNm ((List.range m).map g)) O:=by
 have z:=iU (g:=mgN 0) (t:=bN) (λρ=>∃a,ρ=a::ρc) _ _ _ _ O [] ⟨none,rfl⟩ (by
  rintro k hk ρ ⟨a,rfl⟩
  exact⟨_,rfl,⟨_,rfl⟩,rfl,b k (List.mem_range.mp hk)⟩)
 rw[qF,Qx3 (by rw[fV,h1]) (by omega),aO,if_pos (by unfold gR;rw[zd,List.length_range];omega),c];show(cj _ _ _ ((List.range m).map _) _ O []).bind _=_;rw[z];unfold dNm;rw[zR];rfl
def Mu{T:L2.M Bool}     (h:T [a,b,c,d,some (dNm N),e,f,g] O=.ok bb O):aD T (ue 4) aG [a,b,c,d,some (dNm N),e,f,g] O=.nx [a,b,c,d,some (dNm (if bb then N.reverse else N)),e,f,g] O:=by
 cases bb with
 |true=>exact(dG h).trans (by unfold dNm;rw[if_pos rfl,List.map_reverse];rfl)
 |false=>exact cI h
def QvH(c:Int){m:Nat}(h1:1<=m)(h4:m<=4)(O:au):∃N,Nms N/\Bg [.int c,.int (m:Int)] O=.ok (dNm N) O:=by
 obtain⟨u,F⟩:=Qvm c
 have q:∀{N:List (List Nat)} (d:Bool),Nms N->Nms (if d then N.reverse else N):=λd h=>by
  cases d with
  |true=>exact h.rev
  |false=>exact h
 suffices h:∃N,Nms N/\Bf [some (.int c),some (.int (m:Int)),none,none,none,none,none,none] O=.rt (dNm N) O by
  obtain⟨N,h1,h2⟩:=h;exact⟨N,h1,congrArg bu h2⟩
 unfold Bf
 have G:∀k:Nat,k<8->ak gIx (aa 2) (ak bC (aC cN (aj (aa 1) (aj (ak aJ (mC (.int 20)) (aa 0)) ao))) (mC (.int 26))) [some (.int (0+(k:Int))),some (.int c),some (.str abc)] O=.ok (.str [lb c k]) O:=λk C=>aY (x:=.str abc) rfl (cX (dY rfl (jW rfl rfl) (by omega) (by omega)) rfl (by decide)) (by
  rw[lz,gY,show mix c (20+(0+(k:Int))) % 26=((mix c (20+(0+(k:Int))) % 26).toNat:Int) by omega,Mp (by omega)]
  rfl)
 have I:∀k:Nat,k<m->mSl (aa 1) moN (moS (ak dO (mC (.int 8)) (aa 0))) [some (.int (0+(k:Int))),some (.str ((List.range 8).map (lb c)))] O=.ok (.str (nA ((List.range 8).map (lb c)) k)) O:=λk C=>slT (a:=8 - k) rfl ((J2 rfl rfl).trans (by rw[show(8:Int) - (0+(k:Int))=((8 - k:Nat):Int) by omega])) (by omega)
 by_cases E:mix c 28 % 3>0
 ·obtain⟨s,hs,Q⟩:=rQ (mix c 29) (n:=8) (by omega);obtain⟨a,L,P⟩:=rQ (mix c 30) (n:=1+s) (by omega);obtain⟨f,J,f20⟩:=rQ (mix c 31) (n:=20) (by omega);refine⟨_,q (decide (mix c 32 % 2=0)) (QAP u F (s:=1+s) P (by omega) f20 h1 h4),(fH (bw rfl)).trans ((fH (bw (Ms (ρc:=[some (.int c),some (.str abc)]) rfl G))).trans ((fH (bw (Cz h4 (ρc:=[some (.str ((List.range 8).map (lb c)))]) rfl rfl I))).trans ((fH ((dG (cT (aY (cX (dY rfl rfl (by decide) (by decide)) rfl (by decide)) (y:=.int 0) rfl (show gGt (.int (mix c 28 % 3)) (.int 0)=some (.bl true) from congrArg (λx=>some (D.bl x)) (zu E))))).trans ((fH (bw (add_n (a:=1) rfl ((cX (dY rfl rfl (by decide) (by decide)) rfl (by decide)).trans (congrArg (λx=>Res.ok (D.int x) O) hs))))).trans ((fH (bw ((cX (dY rfl rfl (by decide) (by decide)) rfl (by omega)).trans (congrArg (λx=>Res.ok (D.int x) O) L)))).trans ((fH (bw ((cX (dY rfl rfl (by decide) (by decide)) rfl (by decide)).trans (congrArg (λx=>Res.ok (D.int x) O) J)))).trans (bw (Cz h4 rfl rfl λk C=>?_))))))).trans ((fH (Mu (mO (cX (dY rfl rfl (by decide) (by decide)) rfl (by decide)) rfl))).trans rfl))))⟩
  have j:=Cq (m:=aa 2) (b:=moS (aa 3)) (ρ:=[some (.int (0+(k:Int))),some (.str abc),some (.str ((List.range 8).map (lb c))),some (.int ((1+s:Nat):Int)),some (.int (a:Int)),some (.int (f:Int))]) (O:=O) (t:=(List.range 8).map (lb c)) (x:=some ((a+1:Nat):Int)) (y:=some ((1+s:Nat):Int)) rfl (Ck (m:=ak aJ (aa 4) (mC (.int 1))) (add_n (b:=1) rfl rfl)) rfl (by omega);rw[BP] at j;exact jZ (jZ (slT rfl rfl (by omega)) (aY (x:=.str abc) (y:=.int ((f+k:Nat):Int)) rfl ((jW rfl rfl).trans (by rw[show(f:Int)+(0+(k:Int))=((f+k:Nat):Int) by omega])) (Mp (by omega))) (by rw[List.length_take,zM];omega)) j (by rw[zf,List.length_take,List.length_take,List.length_drop,zM];omega)
 ·exact⟨_,q (decide (mix c 32 % 2=0)) (QBd u F h1 h4),(fH (bw rfl)).trans ((fH (bw (Ms (ρc:=[some (.int c),some (.str abc)]) rfl G))).trans ((fH (bw (Cz h4 (ρc:=[some (.str ((List.range 8).map (lb c)))]) rfl rfl I))).trans ((fH (rP (cT (aY (cX (dY rfl rfl (by decide) (by decide)) rfl (by decide)) (y:=.int 0) rfl (show gGt (.int (mix c 28 % 3)) (.int 0)=some (.bl false) from congrArg (λx=>some (D.bl x)) (zk E)))))).trans ((fH (Mu (mO (cX (dY rfl rfl (by decide) (by decide)) rfl (by decide)) rfl))).trans rfl))))⟩
def NOk.asc{n:List Nat}(h:NOk n):ascii n=true:=by
 unfold ascii;rw[jc];intro c b
 have:=h.ok c b
 exact zu (by omega)
def Qy7  (h:NOk n)(O:au):uO [.str n] O=.ok (.bl true) O:=by
 have h1:=h.l1;have h2:=h.l8
 have j:cj (mgN 0) bN (fQ gLe gLe (mC (.str [97])) (aa 0) (mC (.str [122]))) (cH n) [none] O []=.ok (n.map λ_=>.bl true) O:=by
  have z:=iU (g:=mgN 0) (t:=bN) (m:=fQ gLe gLe (mC (.str [97])) (aa 0) (mC (.str [122]))) (λρ=>∃a,ρ=[a]) (λc =>D.str [c]) (λ_=>.bl true) n _ O [] ⟨none,rfl⟩ (by
   rintro c hc ρ ⟨a,rfl⟩;have q:=h.ok c hc;refine⟨_,rfl,⟨_,rfl⟩,rfl,?_⟩
   simp[q])
  exact z
 have u:∀n:List Nat,jJ (n.map λ_=>D.bl true)=some (n.map λ_=>true):=λn=>by
  induction n with
  |nil=>rfl
  |cons c n f=>simp only[zg,jJ,f];rfl
 have x:tO [.lst (n.map λ_=>.bl true)]=some (.bl true):=by
  show(jJ _).map _=_;rw[u];simp
 show bu (yG [some _] O)=_;unfold yG;have d:(n.length:Int)<=8/\(1:Int)<=n.length:=⟨by omega,by omega⟩
 have hs:(cH n).length<=1000000:=by unfold cH;rw[zd];omega
 have b:n.length<=1000000:=by omega
 simp only[cM,iT,jN,iR,ym,fV,ja,aO,lz,Qwk,yj,Qyf,lu,lA,nY,Bool.not_true,nZ,Bool.false_eq_true,if_false,uD,gH,dF,Qye,Ht,m_c,qx,gZ,jO,gY,zg,zX,HW,if_pos b,gW,QAS,zu d.1,zu d.2,QA3,if_true,qF,ou,yq h.asc,yp,if_pos hs,show eU 1 [] _=[none] from rfl,j,nW,x];rfl
theorem Mv{α:Type}{g:MG}{t:L2.M Bool}{m:L2.M D}(c:aM->Prop)(f h:α->D)(xs:List α)(O:au)(n:Nat)(d:O[n]?=some (.ml (xs.map f)))
  (hs:∀x∈xs,∀ρ,c ρ->∃ρ1,g (f x) ρ=some ρ1/\c ρ1/\t ρ1 O=.ok true O/\m ρ1 O=.ok (h x) O):∀(k:Nat) (ρ:aM) (b:List D),k<=xs.length->c ρ->iQ n xs.length g t m k ρ O b=.ok (b++(xs.drop (xs.length - k)).map h) O
 | 0,ρ,b,_,_=>by
  unfold iQ;rw[d];dsimp only;rw[if_pos (zd _),Nat.sub_zero,List.drop_length,zX,zJ]
 |k+1,ρ,b,hk,hp=>by
  have j:xs.length - (k+1)<xs.length:=by omega
  unfold iQ;rw[d]
  dsimp
  rw[zE,zw]
  dsimp
  obtain⟨ρ1,y,h1,u,q⟩:=hs _ (jh _) ρ hp;rw[y]
  dsimp
  rw[u]
  dsimp
  rw[q]
  dsimp
  rw[Mv c f h xs O n d hs k _ _ (by omega) h1,zH,List.drop_eq_getElem_cons j,show xs.length - (k+1)+1=xs.length - k by omega];rfl
def QsV{α:Type}{mi:L2.M D}{own:Nat}     (b:aM->Prop)(f h:α->D)(xs:List α)    (j:mi ρ O=.ok (.ob n) O)(c:O[n]?=some (.ml (xs.map f)))(d:xs.length<=1000000)(h0:b (eU own cap ρ))
  (hs:∀x∈xs,∀ρ,b ρ->∃ρ1,g (f x) ρ=some ρ1/\b ρ1/\t ρ1 O=.ok true O/\m ρ1 O=.ok (h x) O):qi mi own cap g t m ρ O=.ok (.lst (xs.map h)) O:=by
 unfold qi;rw[j,aO];dsimp only;rw[c];dsimp only;rw[if_pos (by rw[zd];exact d),zd,Mv b f h xs O n c hs _ _ [] (zc _) h0,aO,Nat.sub_self,List.drop_zero,zO]
def sgl:List Nat:=[32,33,34,35,36]++List.range' 38 88
structure Tok(l:List Nat):Prop where
 len:l.length<=9
 ok:∀c∈l,(32<=c/\c<=125)\/c=10\/c=9
def pq:List Nat:=[97,98,99,100,101,102,103,104,46]
def TR(r:MS)(ρ:aM):Prop:=∃l,Tok l/\∀O,r ρ O=.rt (.str l) O
def Tk(m:L2.M D)(ρ:aM):Prop:=∃l,Tok l/\∀O,m ρ O=.ok (.str l) O
section
variable {s r:MS}{e m:L2.M D}{T:L2.M Bool}{b:Bool}{ρ ρ':aM}{n v:Int}
def sqk(h:∀O,s ρ O=.nx ρ' O)(h2:TR r ρ'):TR (aq s r) ρ:=let ⟨l,k,e⟩:=h2;⟨l,k,λO=>(sq (h O)).trans (e O)⟩
def trR(h:Tk e ρ):TR (aA e) ρ:=let ⟨l,k,e⟩:=h;⟨l,k,λO=>fc (e O)⟩
def tkc(h:∀O,T ρ O=.ok b O)(h1:Tk e ρ)(h2:TR r ρ):TR (aq (aD T (aA e) aG) r) ρ:=by
 cases b with
 |true=>exact let ⟨l,k,e⟩:=h1;⟨l,k,λO=>by rw[cM,dG (h O),fc (e O)];rfl⟩
 |false=>exact sqk (λO=>cI (h O)) h2
def tkS{l:List Nat}(j:∀O,m ρ O=.ok (.str l) O)(hv:∀O,aa 3 ρ O=.ok (.int v) O)(f:∀c∈l,32<=c/\c<=125)(h:(l.length:Int)=n)(d:0<n)(q:n<=1000000):Tk (ak gIx m (ak bC (aa 3) (mC (.int n)))) ρ :=
 let ⟨c,hc,e⟩:=ixS (v:=v) (by omega) h d
 ⟨[c],⟨by simp,by simp[f c hc]⟩,λO=>aY (j O) (cX (hv O) rfl d) e⟩
def tkL{c:Nat}(E:32<=c/\c<=125)(W:List (List Nat))(C:∀O,m ρ O=.ok (.lst (W.map λw=>.str (w.map λx=>if x=0 then c else x))) O)(hv:∀O,aa 3 ρ O=.ok (.int v) O)(j:∀w∈W,w.length<=9/\∀x∈w,x=0\/(32<=x/\x<=125)\/x=10\/x=9)(h:(W.length:Int)=n)(q:0<n):Tk (ak gIx m (ak bC (aa 3) (mC (.int n)))) ρ:=by
 obtain⟨d,hd,e⟩:=ixL (l:=W.map λw=>.str (w.map λx=>if x=0 then c else x)) (v:=v) (by rw[zd];exact h) q;obtain⟨w,f,rfl⟩:=zA.mp hd;refine⟨w.map λx=>if x=0 then c else x,⟨by rw[zd];exact(j w f).1,λy u=>?_⟩,λO=>aY (C O) (cX (hv O) rfl q) e⟩;obtain⟨x,hx,rfl⟩:=zA.mp u
 have:=(j w f).2 x hx
 grind
end
def CG(n:Int):∃l,Tok l/\∀O,vB [.int n] O=.ok (.str l) O:=by
 obtain⟨c,f,j⟩:=ixS (l:=pq) (v:=mix n 2) (n:=9) (by decide) (by decide) (by decide)
 have b:32<=c/\c<=125:=by
  have:∀c∈pq,32<=c/\c<=125:=by decide
  exact this c f
 have d:∀{k:Int}{ρ:aM}{O:au},0<=k->k<=1000000->aC cN (aj (aa 0) (aj (mC (.int k)) ao)) (some (.int n)::ρ) O=.ok (.int (mix n k)) O:=dY rfl rfl
 suffices h:TR Bb [some (.int n),none,none,none,none] from let ⟨l,k,e⟩:=h;⟨l,k,λO=>congrArg bu (e O)⟩
 unfold Bb;refine sqk (λO=>bw (aY rfl (cX (d (by decide) (by decide)) rfl (by decide)) j)) (sqk (λO=>bw (cX (d (by decide) (by decide)) rfl (by decide))) (sqk (λO=>bw (d (by decide) (by decide))) (sqk (λO=>bw rfl) (sqk (λO=>bw rfl) (sqk (λO=>Bm rfl rfl (by simp)) ?_)))));refine tkc (λ_=>rfl) (tkS (l:=sgl) (λ_=>rfl) (λ_=>rfl) (by decide) rfl (by decide) (by decide)) (tkc (λ_=>rfl) (tkS (λ_=>rfl) (λ_=>rfl) (by decide) rfl (by decide) (by decide)) (tkc (λ_=>rfl) ⟨[91,c,93],⟨by simp,by simp[b]⟩,λ_=>rfl⟩ (tkc (λ_=>rfl) ⟨[91,47,c,93],⟨by simp,by simp[b]⟩,λ_=>rfl⟩ (tkc (λ_=>rfl) (tkL b [[91,93],[91,91],[91,93,93],[91,91,93]] (λ_=>rfl) (λ_=>rfl) (by decide) rfl (by decide)) (tkc (λ_=>rfl) (tkL b [[10],[9],[10]] (λ_=>rfl) (λ_=>rfl) (by decide) rfl (by decide)) (tkc (λ_=>rfl) ⟨[c],⟨by simp,by simp[b]⟩,λ_=>rfl⟩ (tkc (λ_=>rfl) ?_ (trR (tkL b [[91],[91,47],[91,0],[91,47,0],[91,105,93],[91,47,93],[91,0,0,93],[91,65,93],[91,47,105,93],[91,91,91],[91,47,91],[91,0,91],[91,47,0,47,93],[91,47,47,0,93],[91,0,10],[93],[47],[91,47,0,9,93]] (λ_=>rfl) (λ_=>rfl) (by decide) rfl (by decide))))))))))
 refine⟨cz [111,117,116,119,101,97,118,101,115] none (some (2+mix n 1 % 8)),⟨?_,λx hx=>?_⟩,λO=>Cq rfl rfl (Ck (jW rfl (cX rfl rfl (by decide)))) (by decide)⟩
 ·unfold cz;simp;omega
 ·have q:∀x∈[111,117,116,119,101,97,118,101,115],32<=x/\x<=125:=by decide
  exact .inl (q x (List.mem_of_mem_drop (List.mem_of_mem_take hx)))
noncomputable def tok(n:Int):List Nat:=(CG n).choose
def QyS(n:Int):Tok (tok n):=(CG n).choose_spec.1
def QxW(n:Int)(O:au):vB [.int n] O=.ok (.str (tok n)) O:=(CG n).choose_spec.2 O
def Qzz(ns:List Int)(O:au):∃v,qX [.lst (ns.map D.int),.int 0] O=.ok (.int v) O:=by
 cases ns with
 |nil=>exact⟨0,by simp[qX,Ba]⟩
 |cons n ns =>
  have b:gIx (.lst (D.int n::ns.map D.int)) (.int 0)=some (.int n):=by
   have:=qG (xs:=D.int n::ns.map D.int) (j:=0)
   exact this
  simp[qX,Ba,b]
def l3(x:LT):L3:=(x.1,if x.1=32 then 46 else x.2.1,x.2.2.1)
def QBF(c i:Nat)(O:au):yW [.str [c],.str [i]] O=.ok (.str [if c=32 then 46 else i]) O:=by
 show bu _=_;unfold JD;rw[dF,lC,Cm rfl rfl,aO]
 by_cases h:c=32
 ·subst h;rfl
 ·rw[if_neg (by simp[h]),if_neg h];rfl
def Qzu   {r:List LT}(h:O[n]?=some (.ml (r.map dL)))(b:r.length<=1000):qP [.ob n] O=.ok (.lst ((r.map l3).map dK)) O:=by
 refine cU ?_;rw[zR];refine fc (QsV (λρ=>∃a,ρ=[a]) dL _ r rfl h (by omega) ⟨_,rfl⟩ ?_);rintro x hx ρ ⟨a,rfl⟩;exact⟨_,rfl,⟨_,rfl⟩,rfl,Bl (maS rfl (maS ((bA (maS rfl (ma1 rfl))).trans (QBF _ _ _)) (ma1 rfl))) (by show 3<=_;decide)⟩
def QAb  (h:col c=true):c∈pq:=jj h
def QBQ   {r:List LT}(h:O[n]?=some (.ml (r.map dL)))(F:r.length<=200)(q:∀x∈r,OkL x)   (u:m ρ O=.ok (.ob n) O):∃T d,T.length<=5000/\aC qW (aj (aC qP (aj m ao)) ao) ρ O=.ok (.str T) d/\Kp O d:=by
 have j:∀x∈r.map l3,x.2.1∈pq:=λx hx=>by
  obtain⟨y,f,rfl⟩:=zA.mp hx;show(if y.1=32 then 46 else y.2.1)∈pq
  split
  ·decide
  ·exact QAb (q y f).2.1
 have E:=QyK _ 1 _ (λx=>.inl ⟨rfl,rfl⟩) (by rw[zd];omega) (by decide) (by decide) j
 have C:∀c∈46::(r.map l3).map λx=>x.2.1,c∈pq:=λc hx=>by
  rcases zl.mp hx with rfl | hx
  ·decide
  ·obtain⟨y,f,rfl⟩:=zA.mp hx;exact j y f
 obtain⟨T,d,a,b,c⟩:=Qur ⟨by rw[zd];omega,zG (Qt1 C) (by decide),J8 _,λz=>by
  have:=(J7 (46::(r.map l3).map λx=>x.2.1) 46).mpr ze
  rw[z] at this
  cases this⟩ E O
 exact⟨T,d,a,(bA (ma1 ((bA (ma1 u)).trans (Qzu h (by omega))))).trans b,c⟩
def mV(N:List (List Nat))(b hs:Nat):Ob:=.ins "Roll" [("names",dNm N),("numbered",.bl false),("rows",.ob b),("hands",.ob hs)]
def bAr:MS:=(aq (aB 5 (aC Aq (aj (ak aJ (ak aJ (aK aP (aj (aX ["Roll"] "rows" (aa 0)) ao)) (aK aP (aj (aa 3) ao))) (mC (.int 1))) (aj (aX ["Roll"] "numbered" (aa 0)) ao))))
  (dR 3 (ak aJ (ak aJ (aa 5) (aC vo (aj (aa 1) (aj (aX ["Roll"] "names" (aa 0)) (aj (ak gIx (aa 4) (mC (.int 1))) ao))))) (aC qW (aj (aC qP (aj (ak gIx (aa 4) (mC (.int 0))) ao)) ao)))))
theorem Mw  (hN:Nms N){nm:List Nat}(J:nm∈N){G L hs:Nat}{R:List D}(a2:Option D):∀(T:List D) (F:List Du) (O:au) (b:List D) (C u:Option D),O[G]?=some (mV N L hs)->O[L]?=some (.ml R)->TE O T F->(∀x∈F,x.1.length<=200)->b.length+T.length<1000000 ->
  ∃E c j f,bB (mgN 4) bAr T [some (.ob G),some (.str nm),a2,some (.lst b),C,u] O=.nx [some (.ob G),some (.str nm),a2,some (.lst c),j,f] E/\c.length=b.length+T.length/\Kp O E
 | [],[],O,b,C,u,_,_,_,_,_=>⟨O,b,C,u,rfl,rfl,λ_ _ h=>h⟩
 |d::T,x::F,O,b,C,u,hr,hR,⟨⟨n,e,hl⟩,hk,ht⟩,hb,ha=>by
  subst e;rw[zz] at ha;obtain⟨S,X,Y,P,q⟩:=QBQ hl (hb x ze) hk.1 (m:=ak gIx (aa 4) (mC (.int 0))) (ρ:=[some _,some _,a2,some _,some (.tup [.ob n,.str _]),some _]) rfl;obtain⟨E,c,j,f,W,U,Q⟩:=Mw hN J a2 T F X (b++[.str _]) _ _ (q _ _ hr) (q _ _ hR) (TE.fr q.fr (λ_ _ _ z=>nomatch z) ht) (λy I=>hb y (zp _ I)) (by rw[zf,zM];omega);have w:=wd8 hN;have Z:=Mm J;refine⟨E,c,j,f,(jY rfl ?_).trans W,by rw[U,zf,zM,zz];omega,λm y I=>Q m y (q m y I)⟩;refine(bc (bw ((bA (maS (jW (jW (iW (ma1 (dw rfl hr ze rfl)) (by show aP [aW O _]=_;rw[iy hR];rfl)) (oR rfl)) rfl) (ma1 (dw rfl hr ze rfl)))).trans rfl))).trans ?_
  show dR 3 _ [some _,some _,a2,some _,some _,some _] O=_;rw[uJ,jX (jZ rfl ((bA (maS rfl (maS (dw rfl hr ze rfl) (ma1 rfl)))).trans (QzH hN J _ O)) (by rw[zf,zM];show 0+_<=_;omega)) P (by rw[lz,lz,HF,if_pos (by rw[zO,zf,zM];omega)])];exact uK rfl (by omega)
 | [],_::_,_,_,_,_,_,_,h,_,_=>h.elim
 | _::_,[],_,_,_,_,_,_,h,_,_=>h.elim
def QyG      (h1:mo ρ O=.ok (.ob n) O)(h2:O[n]?=some (.ml ds))(h3:m ρ O=.ok (.lst es) O)(h4:ds.length+es.length<=1000000):qg mo m ρ O=.nx ρ (O.set n (.ml (ds++es))):=by
 unfold qg;rw[h1]
 dsimp
 rw[h3]
 dsimp
 rw[h2]
 dsimp
 rw[if_pos h4]
def Mx{N:List (List Nat)}(hN:Nms N){nm:List Nat}(G:nm∈N){f c hs:Nat}{R T:List D}{j:List Du}{O:au}(E:O[f]?=some (mV N c hs))(F:O[c]?=some (.ml R))(te:TE O T j)(hb:∀x∈j,x.1.length<=200)(P:R.length+T.length<1000000):
  ∃q A,vq [.ob f,.str nm,.lst T] O=.ok (.lst A) q/\A.length=j.length/\q[c]?=some (.ml (R++A))/\Fr O q [c]:=by
 obtain⟨I,A,L,J,C,u,m⟩:=Mw hN G (some (.lst T)) T j O [] none none E F te hb (by simp;omega);rw[zW,jm] at u;unfold bAr at C;have h1:=m _ _ F;refine⟨I.set c (.ml (R++A)),A,cU (b:=Av) (ρ:=[some (.ob f),some (.str nm),some (.lst T),none,none,none]) ?_,by rw[u,te.len],gs h1,m.fr.trans Fr.set (by simp) (by simp)⟩;unfold Av;refine(bc (bw (d:=.lst []) rfl)).trans ((bc (lL (eZ (l:=T) rfl) C)).trans ?_);exact(bc (QyG (dw (y:=.ob c) (n:=f) rfl (m _ _ E) ze rfl) h1 (es:=A) rfl (by omega))).trans rfl
def pA(p:Key×D)(r:List (Key×D))(k:Key):cu (p::r) k=if p.1=k then some p.2 else cu r k:=by
 unfold cu;rw[List.find?_cons]
 by_cases h:p.1=k
 ·rw[if_pos h,zu h];rfl
 ·rw[if_neg h,zk h]
theorem CJ :∀b:List (Key×D),(b.any λp=>decide (p.1=k))=false->cu b k=none
 | [],_=>rfl
 |p::r,h=>by
  rw[List.any_cons,Bool.or_eq_false_iff] at h;rw[pA,if_neg (of_decide_eq_false h.1)];exact CJ r h.2
theorem CK  :∀b:List (Key×D),(b.any λp=>decide (p.1=k))=true->cu (b.map λp=>if p.1=k then(p.1,d) else p) k'=if k'=k then some d else cu b k'
 | [],h=>absurd h zv
 |p::r,h=>by
  rw[zg,pA,pA]
  by_cases h1:p.1=k
  ·rw[if_pos h1]
   by_cases h2:k'=k
   ·rw[if_pos h2,if_pos (show p.1=k' by rw[h1,h2])]
   ·have h3:¬p.1=k':=λz=>h2 (by rw[<-z,h1])
    rw[if_neg h2,if_neg h3,if_neg h3]
    cases hr:r.any _ with
    |true=>rw[CK r hr,if_neg h2]
    |false =>
     rw[show r.map _=r from ?_];exact(jd λq c=>if_neg (of_decide_eq_false (List.any_eq_false.mp hr q c |> λz=>by simpa using z))).trans (List.map_id _)
  ·rw[if_neg h1];rw[List.any_cons,zk h1] at h;rw[CK r h]
   by_cases h2:k'=k
   ·rw[if_pos h2,if_pos h2,if_neg (λz=>h1 (by rw[z,h2]))]
   ·rw[if_neg h2,if_neg h2]
theorem My  :∀b:List (Key×D),cu (b++[(k,d)]) k'=match cu b k' with
  |some x=>some x
  |none=>if k'=k then some d else none
 | []=>by
  rw[zO,pA]
  by_cases h:k'=k
  ·rw[if_pos h.symm];exact(if_pos h).symm
  ·rw[if_neg λz=>h z.symm];exact(if_neg h).symm
 |p::r=>by
  rw[List.cons_append,pA,pA,My]
  by_cases h:p.1=k'
  ·rw[if_pos h,if_pos h]
  ·rw[if_neg h,if_neg h]
def rR(b:List (Key×D))(k c:Key)(d:D):cu (dj b k d) c=if c=k then some d else cu b c:=by
 unfold dj
 cases h:b.any _ with
 |true=>rw[if_pos rfl,CK _ h]
 |false =>
  rw[if_neg zv,My]
  by_cases h1:c=k
  ·subst h1;rw[CJ _ h]
  ·cases cu _ c with
   |none=>rfl
   |some x=>exact(if_neg h1).symm
def Mz(b:List (Key×D))(k:Key)(d:D):(dj b k d).length<=b.length+1:=by
 unfold dj
 split
 ·rw[zd];exact Nat.le_succ _
 ·rw[zf];exact zc _
def pB        (c:mo ρ O=.ok (.ob n) O)(b:my ρ O=.ok y O)(f:keyOf y=some k)(j:O[n]?=some (.dk m))(hv:cu m k=some d):cQ mo my ρ O=.ok d O:=by
 unfold cQ;rw[c,aO];rw[b]
 show(match keyOf y,O[n]? with
  |some k,some (.dk _)=>match cu _ k with
   |some d=>Res.ok d O
   |none=>.no
  | _,_=>.no)=_
 rw[j,f]
 dsimp
 rw[hv]
def MF        (hv:u ρ O=.ok d O1)(c:mo ρ O1=.ok (.ob n) O1)(b:my ρ O1=.ok y O1)(j:keyOf y=some k)(m:O1[n]?=some (.dk q))(f:q.length<1000000):lg mo my u ρ O=.nx ρ (O1.set n (.dk (dj q k d))):=by
 unfold lg;rw[hv]
 dsimp
 rw[c]
 dsimp
 rw[b]
 dsimp
 rw[m,j]
 dsimp
 rw[if_pos f]
structure Ix where
 hd:Nat
 rd:Nat
 mr:Nat
 n:Nat
def kyN(n:List Nat):Key:=.inr (S n)
def CN  (h:kyN a=kyN b):a=b:=by
 have:=congrArg (λx =>x.cps.toList) (Sum.inr.inj h)
 simpa [lV]
def HX(O:au)(M:Int)(i:Ix)(nm t:List Nat)(c:Bool):Prop:=if c=true then HnC O M i.hd i.rd i.mr i.n nm else HnA O M i.hd i.rd i.mr i.n nm t
def HX.ex{O:au}{M:Int}{i:Ix}{nm t:List Nat}{c:Bool}(h:HX O M i nm t c):(∃c,O[i.hd]?=some (j4 nm i.rd i.mr c))/\(∃h p,O[i.rd]?=some (RO h p))/\∃f s,MkA O i.mr i.n M f s:=by
 unfold HX at h;split at h
 ·obtain⟨a,⟨p,b⟩,f,d⟩:=h;exact⟨⟨_,a⟩,⟨_,p,b⟩,f,_,d⟩
 ·exact⟨⟨_,h.1⟩,⟨_,_,h.2.1⟩,_,_,h.2.2⟩
def HX.fr{O j:au}{M:Int}{i:Ix}{nm t:List Nat}{c:Bool}{S:List Nat}(h:HX O M i nm t c)(f:Fr O j S)(h1:i.hd∉S)(h2:i.rd∉S)(h3:i.mr∉S)(h4:i.n∉S):HX j M i nm t c:=by
 unfold HX at *
 by_cases e:c=true
 ·rw[if_pos e] at h ⊢;obtain⟨a,⟨p,b⟩,m,d⟩:=h;exact⟨f _ _ h1 a,⟨p,f _ _ h2 b⟩,m,d.fr f h3 h4⟩
 ·rw[if_neg e] at h ⊢;exact⟨f _ _ h1 h.1,f _ _ h2 h.2.1,h.2.2.fr f h3 h4⟩
def up{α:Type}(f:List Nat->α)(a:List Nat)(v:α):List Nat->α:=λn=>if n=a then v else f n
def cV    :up f a v a=v:=if_pos rfl
def cJ  {f:List Nat->α}  {v:α}(h:n≠a):up f a v n=f n:=if_neg h
structure RW(O:au)(M:Int)(N G:List (List Nat))(ro rl hs:Nat)(q:List Nat->Ix)(tt:List Nat->List Nat)(cl:List Nat->Bool)(K:Nat):Prop where
 r:O[ro]?=some (mV G rl hs)
 rows:∃L,O[rl]?=some (.ml L)/\L.length=K
 hs:∃kv,O[hs]?=some (.dk kv)/\kv.length<=N.length/\∀n∈N,cu kv (kyN n)=some (.ob (q n).hd)
 hx:∀n∈N,HX O M (q n) n (tt n) (cl n)
 ne:∀a∈N,∀b∈N,a≠b->(q a).hd≠(q b).hd/\(q a).rd≠(q b).rd/\(q a).mr≠(q b).mr/\(q a).n≠(q b).n
 nl:∀a∈N,(q a).n≠rl
def RW.kp{O f:au}{M:Int}{N G:List (List Nat)}{c d hs K:Nat}{q:List Nat->Ix}{b:List Nat->List Nat}{cl:List Nat->Bool}(w:RW O M N G c d hs q b cl K)(k:Kp O f):RW f M N G c d hs q b cl K:=by
 obtain⟨L,l1,j⟩:=w.rows;obtain⟨m,y,C,x⟩:=w.hs;exact⟨k _ _ w.r,⟨L,k _ _ l1,j⟩,⟨m,k _ _ y,C,x⟩,λn u=>(w.hx n u).fr k.fr (λz=>nomatch z) (λz=>nomatch z) (λz=>nomatch z) (λz=>nomatch z),w.ne,w.nl⟩
def RW.turn{O O':au}{M:Int}{N G:List (List Nat)}{ro C hs K K':Nat}{q:List Nat->Ix}{tt:List Nat->List Nat}{cl:List Nat->Bool}(w:RW O M N G ro C hs q tt cl K){a t':List Nat}(Q:a∈N){c':Bool}{n':Nat}{L:List D}
  (hx:HX O' M ⟨(q a).hd,(q a).rd,(q a).mr,n'⟩ a t' c') (nw:Nw O (q a).n n') (hl:O'[C]?=some (.ml L)) (hK:L.length=K') (f:Fr O O' [(q a).hd,(q a).rd,(q a).mr,(q a).n,C]):
  RW O' M N G ro C hs (up q a ⟨(q a).hd,(q a).rd,(q a).mr,n'⟩) (up tt a t') (up cl a c') K':=by
 obtain⟨L0,l1,l2⟩:=w.rows;obtain⟨kv,F,d0,d2⟩:=w.hs;obtain⟨⟨c0,J⟩,⟨h0,p0,I⟩,lw0,s0',u⟩:=(w.hx a Q).ex
 have c:∀{m:Nat},m≠(q a).hd->m≠(q a).rd->m≠(q a).mr->m≠(q a).n->m≠C->m∉[(q a).hd,(q a).rd,(q a).mr,(q a).n,C]:=λh1 h2 h3 h4 h5 z=>by
  simp only[zl,List.not_mem_nil,or_false] at z
  rcases z with z | z | z | z | z
  ·exact h1 z
  ·exact h2 z
  ·exact h3 z
  ·exact h4 z
  ·exact h5 z
 refine⟨f _ _ (c (aR "Roll" "Hand" w.r J) (aR "Roll" "Reader" w.r I) (aR "Roll" "Maker" w.r u.1) (aR "Roll" "" w.r u.2) (aR "Roll" "" w.r l1)) w.r,⟨L,hl,hK⟩,⟨kv,f _ _ (c (aR "" "Hand" F J) (aR "" "Reader" F I) (aR "" "Maker" F u.1) (gb F u.2 (λz=>nomatch z)) (gb F l1 (λz=>nomatch z))) F,d0,λn E=>?_⟩,λn E=>?_,λb P d hd X=>?_,λb P=>?_⟩
 ·rw[d2 n E]
  by_cases e:n=a
  ·rw[e,cV]
  ·rw[cJ e]
 ·by_cases e:n=a
  ·rw[e,cV,cV,cV];exact hx
  ·rw[cJ e,cJ e,cJ e];obtain⟨⟨c1,Z⟩,⟨h1,p1,Y⟩,W,s1,j⟩:=(w.hx n E).ex;obtain⟨U,x,T,R⟩:=w.ne n E a Q e;exact(w.hx n E).fr f (c U (aR "Hand" "Reader" Z I) (aR "Hand" "Maker" Z u.1) (aR "Hand" "" Z u.2) (aR "Hand" "" Z l1)) (c (aR "Reader" "Hand" Y J) x (aR "Reader" "Maker" Y u.1) (aR "Reader" "" Y u.2) (aR "Reader" "" Y l1))
    (c (aR "Maker" "Hand" j.1 J) (aR "Maker" "Reader" j.1 I) T (aR "Maker" "" j.1 u.2) (aR "Maker" "" j.1 l1)) (c (aR "" "Hand" j.2 J) (aR "" "Reader" j.2 I) (aR "" "Maker" j.2 u.1) R (w.nl n E))
 ·by_cases e:b=a
  ·have x:d≠a:=λz=>X (by rw[e,z])
   obtain⟨_,_,W,s1,j⟩:=(w.hx d hd).ex;obtain⟨U,y,T,R⟩:=w.ne a Q d hd (λz=>x z.symm);rw[e,cV,cJ x];exact⟨U,y,T,nw _ _ (Ne.symm R) j.2⟩
  ·by_cases x:d=a
   ·obtain⟨_,_,W,s1,j⟩:=(w.hx b P).ex;obtain⟨U,y,T,R⟩:=w.ne b P a Q e;rw[x,cV,cJ e];exact⟨U,y,T,Ne.symm (nw _ _ R j.2)⟩
   ·rw[cJ e,cJ x];exact w.ne b P d hd X
 ·by_cases e:b=a
  ·rw[e,cV];exact nw _ _ (Ne.symm (w.nl a Q)) l1
  ·rw[cJ e];exact w.nl b P
def MJ     (h:O[hs]?=some (.dk b))(hv:cu b (kyN a)=some (.ob hd)):oJ [.ob hs,.str a] O=.ok (.ob hd) O:=by
 have k:ud true (mG (aa 1)) (mG (aa 0)) [some (.ob hs),some (.str a)] O=.ok (.bl false) O:=by
  show(match keyOf _,O[hs]? with
   |some k,some (.dk _)=>Res.ok _ O
   | _,_=>.no)=_
  rw[h];show Res.ok (D.bl (true != (cu b (kyN a)).isSome)) O=_;rw[hv];rfl
 refine cU ?_;exact(bc (oU (or_f (vG (vJ (t:="str") rfl rfl)) (cT k)))).trans (fc (pB rfl rfl rfl h hv))
def vW       (h:a ρ O=.ok x O)(h2:r ρ O=.ok xs O1):aj a r ρ O=.ok (x::xs) O1:=J4 h h2
section
variable {O:au}{M:Int}{N G:List (List Nat)}{ro rl hs K:Nat}{q:List Nat->Ix}{tt:List Nat->List Nat}{cl:List Nat->Bool}{a:List Nat}
def RW.opn(w:RW O M N G ro rl hs q tt cl K)(c:a∈N)(b:cl a=false):HnA O M (q a).hd (q a).rd (q a).mr (q a).n a (tt a):=by
 have:=w.hx a c
 unfold HX at this;rw[b,if_neg zv] at this;exact this
def RW.nm(w:RW O M N G ro rl hs q tt cl K)(d:a∈N){m:L2.M D}{ρ:aM}(c:m ρ O=.ok (.str a) O){mo:L2.M D}(b:mo ρ O=.ok (.ob ro) O):aC oJ (aj (aX ["Roll"] "hands" mo) (aj m ao)) ρ O=.ok (.ob (q a).hd) O:=by
 obtain⟨u,j,x,f⟩:=w.hs;exact(bA (maS (dw (y:=.ob hs) b w.r ze rfl) (ma1 c))).trans (MJ j (f a d))
def RW.feed(w:RW O M N G ro rl hs q tt cl K)(C:1<=M/\M<=200)(hN:Nms G)(hg:a∈G)(y:a∈N)(hc:cl a=false){p:List Nat}(J:Okt (tt a))(hp:Okt p)(c:Okt (tt a++p))(hK:K<=100000):
  ∃Q A I,vz [.ob ro,.str a,.str p] O=.ok (.lst A) Q/\A.length=(rn M (rn M s0 (sI (tt a))).1 (jI (tt a) p)).2.length/\RW Q M N G ro rl hs (up q a ⟨(q a).hd,(q a).rd,(q a).mr,I⟩) (up tt a (tt a++p)) (up cl a false) (K+A.length)/\Fr O Q [(q a).hd,(q a).rd,(q a).mr,(q a).n,rl]:=by
 have h:=w.opn y hc;obtain⟨L,l1,Z⟩:=w.rows;obtain⟨O1,I,T,e1,u,nw,te,P⟩:=QvM C h J hp c
 have d:∀{m:Nat},m≠(q a).rd->m≠(q a).mr->m≠(q a).n->m∉[(q a).rd,(q a).mr,(q a).n]:=λh1 h2 h3 z=>by simp at z;omega
 have Y:=P ro _ (d (aR "Roll" "Reader" w.r h.2.1) (aR "Roll" "Maker" w.r h.2.2.1) (aR "Roll" "" w.r h.2.2.2)) w.r;have l3:=P rl _ (d (aR "" "Reader" l1 h.2.1) (aR "" "Maker" l1 h.2.2.1) (Ne.symm (w.nl a y))) l1;have W:=si c;have j:=(Ci c).1
 have U:∀x∈jI (tt a) p,Itm x.2.1 x.2.2:=λx hx=>W.i x (jk _ (by rw[j];exact zS _ hx))
 have dl:=(iZ C.1 (jI (tt a) p) _ (lM C.1 J) U).2
 have jl:(jI (tt a) p).length<=5000:=by
  have l:=W.l
  have:=c.len
  rw[zf,j,zf] at l;omega
 obtain⟨X,A,e2,al,R,F⟩:=Mx hN hg Y l3 te (λx hx=>by have:=Cd C.1 _ _ (lM C.1 J) U x hx;omega) (by rw[te.len];omega);have f:Fr O X [(q a).hd,(q a).rd,(q a).mr,(q a).n,rl]:=P.trans F (by simp) (by simp)
 have E:∀{m:Nat},m≠rl->m∉[rl]:=λh=>bx h
 refine⟨X,A,I,cU (b:=Aw) (ρ:=[some (.ob ro),some (.str a),some (.str p)]) ?_,al,w.turn y ?_ nw R (by rw[zf,Z]) f,f⟩
 ·unfold Aw;exact fc ((cY (n:=ro) rfl w.r rfl (vW rfl (fZ ((cY (n:=(q a).hd) (w.nm y rfl rfl) h.1 rfl (ma1 (x:=.str p) rfl)).trans e1)))).trans e2)
 ·unfold HX;rw[if_neg zv];exact⟨F _ _ (E (aR "Hand" "" u.1 l3)) u.1,F _ _ (E (aR "Reader" "" u.2.1 l3)) u.2.1,u.2.2.fr F (E (aR "Maker" "" u.2.2.1 l3)) (E (nw _ _ (Ne.symm (w.nl a y)) l1))⟩
end
def Qy5(r:List LT)(w:List Nat)(q:∀x∈r,OkL x)(m:w=bD\/w=cD):d9 (bU (r,w))=true/\(toP (bU (r,w))).canLay0=true/\(toP (bU (r,w))).depth<=10:=by
 have j:∀c∈w,c<1114112:=by
  rcases m with rfl | rfl
  ·decide
  ·decide
 have lay:∀d∈(r.map dL).map toP,d.canLay0=true/\d.depth<=5:=λd hd=>by
  obtain⟨f,b,rfl⟩:=zA.mp hd;obtain⟨x,hx,rfl⟩:=zA.mp b;exact(Lw (q x hx)).2
 refine⟨?_,?_,?_⟩
 ·refine uG λd hd=>?_
  rcases zl.mp hd with rfl | hd
  ·exact uG λd hd=>by
    obtain⟨x,hx,rfl⟩:=zA.mp hd;rfl
  ·rw[zm.mp hd];rfl
 ·show PyData.canLayAll0 (gQ [.lst _,.str w])=true;rw[oA]
  refine sX λd hd=>?_
  obtain⟨f,b,rfl⟩:=zA.mp hd
  rcases zl.mp b with rfl | b
  ·show PyData.canLayAll0 _=true;rw[oA]
   exact sX λd hd=>(lay d hd).1
  ·rw[zm.mp b];exact uH j
 ·show PyData.depthAll (gQ [.lst (r.map dL),.str w])+1<=10;rw[oA]
  have:=sY (ds:=[D.lst (r.map dL),.str w].map toP) λd hd=>by
   obtain⟨f,b,rfl⟩:=zA.mp hd
   rcases zl.mp b with rfl | b
   ·show PyData.depthAll _+1<=8;rw[oA]
    have:=sY λd hd=>(lay d hd).2
    omega
   ·rw[zm.mp b];show PyData.depth (.str _)<=8;simp[PyData.depth]
  omega
def QvA(l:List (List LT×List Nat))(h:∀x∈l,o9 x):okE (.lst (l.map bU))=true:=Ie (n:=10) (by decide) λd hd=>by
 obtain⟨x,hx,rfl⟩:=zA.mp hd;exact Qy5 _ _ (h x hx).1 (h x hx).2
def QDr(d:D)(ds:List D):iI (.lst (d::ds)) (.lst [])=false:=rfl
def okn:okE (.lst [])=true:=rfl
def QCb(l:List LT)(h:∀x∈l,OkL x):gNe (.lst (l.map dL)) (.lst [])=some (.bl (decide (l≠[]))):=by
 rw[HN,Lx l h]
 cases l with
 | nil
 |cons =>rfl
def Qxy     (e:O[n]?=some (RO h p)):uR [.ob n] O=.ok (.str h) O:=by
 simp[uR,Jq,fh e]
def QvL{M:Int}  (h:OkS M s)(k:List Nat):∀x∈due M s k,o9 x:=by
 intro x hx;unfold due iY at hx;split at hx
 ·rw[zm.mp hx];exact⟨h.ok,.inl rfl⟩
 ·split at hx
  ·split at hx
   ·rw[zm.mp hx];refine⟨λy b=>?_,.inr rfl⟩;unfold bare at b;split at b
    ·cases b
    ·exact h.ok y b
   ·cases hx
  ·cases hx
theorem MK{M:Int}(c:1<=M):∀(b:List It3) (s:Sta),OkS M s->(∀x∈b,Itm x.2.1 x.2.2)->∀x∈(rn M s b).2,o9 x
 | [],s,_,_,x,hx=>nomatch hx
 |y::b,s,h,hi,x,hx=>by
  have hx' :=hx
  rcases zB.mp hx' with hx | hx
  ·exact QvL h _ x hx
  ·exact MK c _ _ (h.stp c (hi y ze)) (λz d=>hi z (zp _ d)) x hx
section
variable {O:au}{M:Int}{N G:List (List Nat)}{ro rl hs K:Nat}{q:List Nat->Ix}{tt:List Nat->List Nat}{cl:List Nat->Bool}{a:List Nat}
def MN{M:Int} :(lstP M t).length<=1:=by
 unfold lstP
 split<;>simp
def RW.close(w:RW O M N G ro rl hs q tt cl K)(d:1<=M/\M<=200)(hN:Nms G)(hg:a∈G)(u:a∈N)(hc:cl a=false)(j:Okt (tt a))(hK:K<=100000):
  ∃F A C,vA [.ob ro,.str a] O=.ok (.lst A) F/\A.length=((rn M (rn M s0 (sI (tt a))).1 (hI (tt a))).2++lstP M (tt a)).length/\RW F M N G ro rl hs (up q a ⟨(q a).hd,(q a).rd,(q a).mr,C⟩) (up tt a (tt a)) (up cl a true) (K+A.length)/\Fr O F [(q a).hd,(q a).rd,(q a).mr,(q a).n,rl]:=by
 have h:=w.opn u hc;obtain⟨L,l1,Z⟩:=w.rows;obtain⟨O1,C,T,e1,W,nw,te,E⟩:=QsW d h j
 have c:∀{m:Nat},m≠(q a).hd->m≠(q a).rd->m≠(q a).mr->m≠(q a).n->m∉[(q a).hd,(q a).rd,(q a).mr,(q a).n]:=λh0 h1 h2 h3 z=>by simp at z;omega
 have X:=E ro _ (c (aR "Roll" "Hand" w.r h.1) (aR "Roll" "Reader" w.r h.2.1) (aR "Roll" "Maker" w.r h.2.2.1) (aR "Roll" "" w.r h.2.2.2)) w.r;have l3:=E rl _ (c (aR "" "Hand" l1 h.1) (aR "" "Reader" l1 h.2.1) (aR "" "Maker" l1 h.2.2.1) (Ne.symm (w.nl a u))) l1;have S:=si j
 have R:∀x∈hI (tt a),Itm x.2.1 x.2.2:=λx hx=>S.i x (zS _ hx)
 have dl:=(iZ d.1 (hI (tt a)) _ (lM d.1 j) R).2;have hl:=S.l;have hl2:=j.len;have ll:=MN (M:=M) (t:=tt a);rw[zf] at hl
 obtain⟨U,A,e2,al,I,y⟩:=Mx hN hg X l3 te (λx hx=>by
  rcases zB.mp hx with hx | hx
  ·have:=Cd d.1 _ _ (lM d.1 j) R x hx
   omega
  ·have o:=(iZ d.1 _ s0 (lK d.1) S.i).1.len;unfold lstP at hx;split at hx
   ·rw[zm.mp hx];show(rn M s0 (sI (tt a)++hI (tt a))).1.row.length<=200;omega
   ·cases hx) (by rw[te.len,zf];omega)
 have f:Fr O U [(q a).hd,(q a).rd,(q a).mr,(q a).n,rl]:=E.trans y (by simp) (by simp);refine⟨U,A,C,cU (b:=Ay) (ρ:=[some (.ob ro),some (.str a)]) ?_,al,w.turn u ?_ nw I (by rw[zf,Z]) f,f⟩
 ·unfold Ay;exact fc ((cY (n:=ro) rfl w.r rfl (vW rfl (fZ ((cY (n:=(q a).hd) (w.nm u rfl rfl) h.1 rfl rfl).trans e1)))).trans e2)
 ·unfold HX;rw[if_pos rfl];obtain⟨Q,⟨p,P⟩,Y,J⟩:=W;exact⟨y _ _ (bx (aR "Hand" "" Q l3)) Q,⟨p,y _ _ (bx (aR "Reader" "" P l3)) P⟩,Y,J.fr y (bx (aR "Maker" "" J.1 l3)) (bx (nw _ _ (Ne.symm (w.nl a u)) l1))⟩
def QBY     (h:m ρ O=.ok (.lst ds) O1):mMl m ρ O=.ok (.ob O1.length) (O1++[.ml ds]):=by
 unfold mMl;rw[h];rfl
def MP{M:Int}  {i:Ix}      (b:O[ro]?=some (mV N rl hs))(f:O[hs]?=some (.dk j))(d:cu j (kyN a)=some (.ob i.hd))(h1:O[i.hd]?=some (j4 nm i.rd i.mr c))(h2:O[i.rd]?=some (RO h p))(h3:MkA O i.mr i.n M m s):
  oM [.ob ro,.str a] O=.ok (.tup [.str h,.ob O.length]) (O++[.ml (s.row.map dL)]):=by
 refine cU ?_;refine(bc (bw ((bA (maS (dw rfl b ze rfl) (ma1 rfl))).trans (MJ f d)))).trans (fc ?_);have a1:aN _ "held_text" yS (aa 2) ao [some (.ob ro),some (.str a),some _] O=.ok _ O:=(cY rfl h1 rfl rfl).trans (cU (fc ((cY (dw rfl h1 ze rfl) h2 rfl rfl).trans (Qxy h2))));have a2:aN _ "open_letters" yU (aa 2) ao [some (.ob ro),some (.str a),some _] O=.ok _ O:=(cY rfl h1 rfl rfl).trans (cU (fc ((cY (dw rfl h1 ze rfl) h3.1 rfl rfl).trans (QxU h3.1 h3.2))));show aU _ [some _,some _,some _] O=_;rw[yh,vW a1 (fZ (QBY a2)),aO,if_pos (by show 2<=_;decide)]
def Qqr  (b:O[ro]?=some (mV N rl hs))(c:O[rl]?=some (.ml L)):Az [.ob ro] O=.ok (.lst L) O :=
 cU (fc (Bu (dw rfl b ze rfl) (iy c)))
end
def MT      (h:m ρ O=.ok d O1)(b:g d ρ=some ρ'):jG m g ρ O=.nx ρ' O1:=by rw[yD,h,yE b]
def Qt3(n:Nat):ixN (n+1) (-1)=some n:=by
 unfold ixN;rw[if_neg (by decide),if_pos (by omega)];congr 1;omega
def QwU(R:List Du)(c:Du):gIx (.lst ((R++[c]).map bU)) (.int (-1))=some (bU c):=by
 rw[HR];unfold atI;rw[show((R++[c]).map _).length=R.length+1 by simp,Qt3];simp
def Que(l:List Du)(h:∀x∈l,o9 x):gNe (.lst (l.map bU)) (.lst [])=some (.bl (decide (l≠[]))):=by
 rw[HN,QvA l h]
 cases l<;>rfl
def dZ(M:Int)(t:List Nat):List Du:=(rn M s0 (sI t++hI t)).2++lstP M t
def M4{M:Int}(f:1<=M/\M<=200)(c:Okt t)(O:au):iu [.str t,.int M,.bl false] O=.ok (.tup [.ob O.length,.lst ((rn M s0 (sI t)).1.row.map dL)]) (O++[.ml ((rn M s0 (sI t)).2.map bU)]):=by
 have S:=si c;have d:=S.l;have b:=c.len;rw[zf] at d;refine cU ?_;refine(bc (bw (aY ((bA (ma1 rfl)).trans (BW t b O)) rfl (by rw[S.s];rfl)))).trans ?_;refine(bc (MT ((bA (maS rfl (ma1 rfl))).trans (Mg f _ (λx hx=>S.i x (jk _ hx)) (by omega) O)) rfl)).trans ?_;exact(bc (oU (and_f (vI rfl)))).trans rfl
def Qvn{M:Int}(f:1<=M/\M<=200)(C:Okt t)(O:au):∃d,iu [.str t,.int M,.bl true] O=.ok (.tup [.ob O.length,d]) (O++[.ml ((dZ M t).map bU)]):=by
 have S:=si C;have G:=S.l;have j:=C.len;have ok:=iZ f.1 _ s0 (lK f.1) S.i;have E:=MK f.1 _ s0 (lK f.1) S.i;refine⟨.lst ((rn M s0 (sI t++hI t)).1.row.map dL),cU (b:=Bh) (ρ:=[some (.str t),some (.int M),some (.bl true),none,none,none]) ?_⟩;unfold Bh;refine(bc (bw (d:=.lst ((sI t).map itD)) (aY ((bA (ma1 (x:=.str t) rfl)).trans (BW t j O)) rfl (by rw[S.s];rfl)))).trans ?_;refine(bc (J9 (vI rfl) (bw (d:=.lst ((sI t++hI t).map itD)) ((bA (ma1 (x:=.str t) rfl)).trans (by rw[Qn6 t j,S.a]))))).trans ?_;refine(bc (MT ((bA (maS (x:=.lst ((sI t++hI t).map itD)) rfl (ma1 (x:=.int M) rfl))).trans (Mg f (sI t++hI t) S.i (by omega) O)) rfl)).trans ?_
 unfold dZ lstP
 generalize hP:(rn M s0 (sI t++hI t)).2=P at E ok ⊢
 generalize hR:(rn M s0 (sI t++hI t)).1.row=R
 have q:∀x∈R,OkL x:=by rw[<-hR];exact ok.1.ok
 have F:P.length<1000000:=by have:=ok.2;omega
 have at':(O++[Ob.ml (P.map bU)])[O.length]?=some (.ml (P.map bU)):=dX;have t1:az (ak gNe (aa 5) (bh ao)) [some (.str t),some (.int M),some (.bl true),some (.lst ((sI t++hI t).map itD)),some (.ob O.length),some (.lst (R.map dL))] (O++[.ml (P.map bU)])=.ok (decide (R≠[])) (O++[.ml (P.map bU)]):=cT (aY (x:=.lst (R.map dL)) (y:=.lst []) rfl rfl (QCb R q))
 have t2:bQ (az (ak gNe (aa 4) (bh ao))) (az (ak gEq (ak gIx (ak gIx (aa 4) (mUn kJ (mC (.int 1)))) (mC (.int 1))) (mC (.str [109,111,114,101])))) [some (.str t),some (.int M),some (.bl true),some (.lst ((sI t++hI t).map itD)),some (.ob O.length),some (.lst (R.map dL))] (O++[.ml (P.map bU)])=.ok (decide (lwO bD P=cD)) (O++[.ml (P.map bU)]):=by
  have u:az (ak gNe (aa 4) (bh ao)) [some (.str t),some (.int M),some (.bl true),some (.lst ((sI t++hI t).map itD)),some (.ob O.length),some (.lst (R.map dL))] (O++[.ml (P.map bU)])=.ok (decide (P≠[])) (O++[.ml (P.map bU)]):=cT (aY (x:=.ob O.length) (y:=.lst []) rfl rfl (by rw[iy at'];exact Que P E))
  rcases List.eq_nil_or_concat P with rfl | ⟨Q,x,rfl⟩
  ·exact and_f u
  ·rw[List.concat_eq_append] at u at' ⊢;refine(Ka (u.trans (by simp)) (b:=decide (x.2=cD)) (Cm (aY (x:=bU x) (y:=.int 1) (aY (x:=.ob O.length) (y:=.int (-1)) rfl rfl (by rw[iy at'];exact QwU Q x)) rfl rfl) rfl)).trans ?_
   have:lwO bD (Q++[x])=x.2:=by unfold lwO;simp
   rw[this]
 have m:bQ (bj (aa 2)) (bL (az (ak gNe (aa 5) (bh ao))) (bQ (az (ak gNe (aa 4) (bh ao))) (az (ak gEq (ak gIx (ak gIx (aa 4) (mUn kJ (mC (.int 1)))) (mC (.int 1))) (mC (.str [109,111,114,101])))))) [some (.str t),some (.int M),some (.bl true),some (.lst ((sI t++hI t).map itD)),some (.ob O.length),some (.lst (R.map dL))] (O++[.ml (P.map bU)])=.ok (decide (R≠[]\/lwO bD P=cD)) (O++[.ml (P.map bU)]):=by
  refine Ka (vI rfl) ?_;rw[lB,t1,aO]
  by_cases h:R≠[]
  ·rw[zu h,if_pos rfl,zu (.inl h)]
  ·rw[zk h,if_neg zv,t2];simp[h]
 by_cases c:R≠[]\/lwO bD P=cD
 ·rw[if_pos c];rw[zu c] at m;refine(bc (J9 m (rK (n:=O.length) (ds:=P.map bU) (d:=.tup [.lst (R.map dL),.str bD]) rfl at' rfl (by rw[zd];exact F)))).trans ?_;rw[mU,show(P++[(R,bD)]).map bU=P.map bU++[.tup [.lst (R.map dL),.str bD]] by simp[bU]];rfl
 ·rw[if_neg c,zJ];rw[zk c] at m;exact(bc (oU m)).trans rfl
section
variable {O:au}{M:Int}{N G:List (List Nat)}{ro rl hs K:Nat}{q:List Nat->Ix}{tt:List Nat->List Nat}{cl:List Nat->Bool}{a:List Nat}
def fJ  :Kp O (O++[x]):=λj y h=>by rw[zD (zt.mp h).1];exact h
def Kp.trans{O O1 c:au}(a:Kp O O1)(b:Kp O1 c):Kp O c:=λj y h=>b j y (a j y h)
def RW.right(w:RW O M N G ro rl hs q tt cl K)(I:1<=M/\M<=200)(F:a∈N)(Q:cl a=false)(m:Okt (tt a)):∃L,oO [.ob ro,.str a,.str (tt a),.int M] O=.ok (.bl true) L/\Kp O L:=by
 have h:=w.opn F Q;obtain⟨X,W,Y,U⟩:=w.hs;have u:=MP (i:=q a) w.r W (U a F) h.1 h.2.1 h.2.2;have c:=lM I.1 m
 generalize hR:(rn M s0 (sI (tt a))).1.row=R at u
 generalize hH:(aQ [] 0 (tt a)).2=H at u
 have C:∀x∈R,OkL x:=by rw[<-hR];exact c.ok
 have rl':R.length<=200:=by rw[<-hR];have:=c.len;omega
 have T:(O++[Ob.ml (R.map dL)])[O.length]?=some (.ml (R.map dL)):=dX;have f:=M4 I m (O++[.ml (R.map dL)]);rw[hR] at f
 generalize (rn M s0 (sI (tt a))).2.map bU=P at f
 have J:(O++[Ob.ml (R.map dL)]++[Ob.ml P])[O.length]?=some (.ml (R.map dL)):=fJ _ _ T;have u1:az (ak gNe (ak gIx (aa 4) (mC (.int 0))) (ak gIx (aC qZ (aj (aa 2) ao)) (mC (.int 1)))) [some (.ob ro),some (.str a),some (.str (tt a)),some (.int M),some (.tup [.str H,.ob O.length])] (O++[.ml (R.map dL)])=.ok false (O++[.ml (R.map dL)]):=cT (aY (x:=.str H) (y:=.str H) rfl (aY ((bA (ma1 (x:=.str (tt a)) rfl)).trans (BW (tt a) m.len _)) rfl (by rw[hH];rfl)) (by rw[lz,QBe,zu rfl];rfl));have u2:bY (bj (aC rm (aj (ak gIx (aa 4) (mC (.int 1))) (aj (ak gIx (aC iu (aj (aa 2) (aj (aa 3) (aj (mC (.bl false)) ao)))) (mC (.int 1))) ao)))) [some (.ob ro),some (.str a),some (.str (tt a)),some (.int M),some (.tup [.str H,.ob O.length])] (O++[.ml (R.map dL)])=.ok false (O++[.ml (R.map dL)]++[.ml P]):=Bo ((Bq (vW (x:=.ob O.length) rfl (fZ (x:=.lst (R.map dL)) (jX (x:=.tup [.ob (O++[Ob.ml (R.map dL)]).length,.lst (R.map dL)]) (y:=.int 1) ((bA (maS (x:=.str (tt a)) rfl (maS (x:=.int M) rfl (ma1 (x:=.bl false) rfl)))).trans f) rfl rfl)))).trans (QA9 R C J))
 refine⟨(O++[Ob.ml (R.map dL)]++[Ob.ml P]).set O.length (Ob.ml (R.map dL++[D.tup [.str [120],.str [46],.str [46],.int 0]])),cU (b:=Bj) (ρ:=[some (.ob ro),some (.str a),some (.str (tt a)),some (.int M),none]) ?_,λj y E=>?_⟩
 ·unfold Bj;refine(bc (mQ (d:=.tup [.str H,.ob O.length]) ((cY (n:=ro) rfl w.r rfl (ma1 (x:=.str a) rfl)).trans u))).trans ?_;refine(bc (oU (or_f (vG (vJ (d:=.tup [.str H,.ob O.length]) (t:="tuple") rfl rfl)) (or_f (cT rfl) (vG (vJ (d:=.str H) (t:="str") rfl rfl)))))).trans ?_;refine(bc (ifN (Bp u1 u2))).trans ?_;exact(bc (rK (n:=O.length) (ds:=R.map dL) (d:=.tup [.str [120],.str [46],.str [46],.int 0]) rfl J rfl (by rw[zd];omega))).trans rfl
 ·rw[zh (Nat.ne_of_gt (zt.mp E).1)];exact fJ _ _ (fJ _ _ E)
end
def CP{b:MS}{ρ ρ2:aM}{O c:au}(h:b ρ O=.nx ρ2 c):bu (b ρ O)=.ok .non c:=by rw[h];rfl
def M5{c:Str}{cf:List D->au->Res D}{ma:L2.M (List D)}{ρ:aM}{O O1:au}{ds:List D}(h:ma ρ O=.ok ds O)(b:cf (.ob O.length::ds) (O++[.ins c []])=.ok .non O1):dD c cf ma ρ O=.ok (.ob O.length) O1:=by
 rw[yz,h,aO,b,yC]
def QCJ{m:Nat}:m∉([]:List Nat):=λz=>nomatch z
def CQ{O O1:au}{n:Nat}{y:Ob}(k:Kp O O1)(h:O.length<=n):Kp O (O1.set n y):=λj x b=>by
 rw[zh (Nat.ne_of_gt (zI (zt.mp b).1 h))];exact k j x b
def Qz4{M:Int}(P:1<=M/\M<=200)(a:List Nat)(O:au){ma:L2.M (List D)}{ρ:aM}(L:ma ρ O=.ok [.str a,.int M] O):
  ∃m n,dD "Hand" u6 ma ρ O=.ok (.ob O.length) m/\HnA m M O.length (O.length+1) (O.length+2) n a []/\Kp O m/\O.length<=n:=by
 have Y:(O++[Ob.ins "Hand" []])[O.length]?=some (.ins "Hand" []):=dX;have R:(O++[Ob.ins "Hand" [("name",.str a)]])[O.length]?=some (.ins "Hand" [("name",.str a)]):=dX
 have l1:(O++[Ob.ins "Hand" [("name",.str a)]]).length=O.length+1:=by simp
 have J:Kp O (O++[Ob.ins "Hand" [("name",.str a)]]):=fJ
 generalize hO1:O++[Ob.ins "Hand" [("name",.str a)]]=c at *
 have r:=λρ=>QAo ρ c
 rw[l1] at r;have a2:(c++[RO [] 0])[O.length]?=some (.ins "Hand" [("name",.str a)]):=fJ _ _ R
 have X:(c++[RO [] 0])[O.length+1]?=some (RO [] 0):=by rw[<-l1];exact dX
 have Q:Fr (c++[RO [] 0]) ((c++[RO [] 0]).set O.length (.ins "Hand" [("name",.str a),("reader",.ob (O.length+1))])) [O.length]:=Fr.set
 have G:((c++[RO [] 0]).set O.length (.ins "Hand" [("name",.str a),("reader",.ob (O.length+1))])).length=O.length+2:=by rw[zV,zf,l1];rfl
 have I:Kp O ((c++[RO [] 0]).set O.length (.ins "Hand" [("name",.str a),("reader",.ob (O.length+1))])):=CQ (J.trans fJ) (zc _);have W:=gs (y:=.ins "Hand" [("name",.str a),("reader",.ob (O.length+1))]) a2;have T:=Q _ _ (bx (by omega)) X
 generalize hO2:(c++[RO [] 0]).set O.length (.ins "Hand" [("name",.str a),("reader",.ob (O.length+1))])=Z at *
 obtain⟨f,n,u,q,F,E,j⟩:=QzJ M P Z [some (.ob O.length),some (.str a),some (.int M)] (λ_=>rfl);rw[G] at u q E;have C:=j _ _ W;have f4:Fr f (f.set O.length (.ins "Hand" [("name",.str a),("reader",.ob (O.length+1)),("maker",.ob (O.length+2))])) [O.length]:=Fr.set;have x:=gs (y:=.ins "Hand" [("name",.str a),("reader",.ob (O.length+1)),("maker",.ob (O.length+2))]) C;have f5:Fr (f.set O.length (.ins "Hand" [("name",.str a),("reader",.ob (O.length+1)),("maker",.ob (O.length+2))])) ((f.set O.length (.ins "Hand" [("name",.str a),("reader",.ob (O.length+1)),("maker",.ob (O.length+2))])).set O.length (j4 a (O.length+1) (O.length+2) false)) [O.length]:=Fr.set
 have f6:=f4.trans f5 (U:=[O.length]) (λ_ h=>h) (λ_ h=>h);refine⟨_,n,M5 L (CP (b:=yP) (ρ:=[some (.ob O.length),some (.str a),some (.int M)]) (ρ2:=[some (.ob O.length),some (.str a),some (.int M)]) ?_),⟨gs x,f6 _ _ (bx (by omega)) (j _ _ T),f6 _ _ (bx (by omega)) q,f6 _ _ (bx (by omega)) F⟩,CQ (CQ (I.trans j) (zc _)) (zc _),by omega⟩;unfold yP;refine(bc (iw (n:=O.length) (d:=.str a) rfl rfl Y ze (by decide))).trans ?_;rw[mU];show aq _ _ _ (O++[Ob.ins "Hand" [("name",.str a)]])=_;rw[hO1];refine(bc (iw (n:=O.length) (r _) rfl a2 ze (by show 1<900;decide))).trans ?_
 show aq _ _ _ ((c++[RO [] 0]).set O.length (.ins "Hand" [("name",.str a),("reader",.ob (O.length+1))]))=_;rw[hO2];refine(bc (iw (n:=O.length) u rfl C ze (by show 2<900;decide))).trans ?_;exact iw (n:=O.length) (d:=.bl false) rfl rfl x ze (by show 3<900;decide)
def QAh(b:Bool)(s:List Nat)(ds:List D):gIn b (.str s) (.lst ds)=if(gq (.str s)&&ds.all gq)=true then some (.bl (b ^^ ds.any λy=>eqF y (.str s))) else none:=by
 cases s with
 |nil=>rfl
 |cons a t=>cases t<;>rfl
def Qyv(a b:List Nat):eqF (.str a) (.str b)=decide (a=b):=by
 show decide _=_
 by_cases h:a=b
 ·rw[h,zu rfl,zu rfl]
 ·rw[zk h,zk λz=>h (CN (congrArg Sum.inr z))]
def QAG{l:List (List Nat)}  (h:s∉l):gIn false (.str s) (.lst (l.map D.str))=some (.bl false):=by
 rw[QAh,if_pos]
 ·rw[Bool.false_xor,(List.any_eq_false.mpr λd hd=>by
   obtain⟨x,hx,rfl⟩:=zA.mp hd;rw[Qyv,zk λz=>h (by rw[<-z];exact hx)]
   exact zv)]
 ·rw[show gq _=true from rfl,Bool.true_and,jc];intro d hd;obtain⟨r,b,rfl⟩:=zA.mp hd;rfl
def bCn:MS:=(aq (aD (bY (bj (aC uO (aj (aa 2) ao)))) gM aG)
  (aD (az (ak (gIn false) (aa 2) (mSl (aa 0) moN (moS (aa 1))))) gM aG))
theorem M6{N:List (List Nat)}(h:Nms N)(O:au):∀(R P:List (List Nat)) (f d:Option D),N=P++R->∃c b,bB (dM 2 (bM (mgN 1) (bM (mgN 2) d8))) bCn (c7 P.length (R.map D.str)) [some (dNm N),f,d] O=.nx [some (dNm N),c,b] O
 | [],P,f,d,_=>⟨f,d,rfl⟩
 |n::R,P,f,d,e=>by
  obtain⟨c,b,q⟩:=M6 h O R (P++[n]) (some (.int (P.length:Int))) (some (.str n)) (by rw[e];simp);rw[zf,zM] at q;have nd:=h.nd;rw[e,jo] at nd
  have j:n∉P:=λz=>nd.2.2 n z n ze rfl
  have m:n∈N:=by rw[e];simp
  have cut:mSl (aa 0) moN (moS (aa 1)) [some (dNm N),some (.int (P.length:Int)),some (.str n)] O=.ok (.lst (P.map D.str)) O:=by
   show ofO (gSl (aW O (.lst (N.map D.str))) none (some (P.length:Int))) O=_;rw[nW,Hw,gW,Lj,e,zN,List.take_left' (zd _)]
  refine⟨c,b,(jY (ρ1:=[some (dNm N),some (.int (P.length:Int)),some (.str n)]) rfl ?_).trans q⟩;unfold bCn;exact(bc (not_no ((bA (ma1 (x:=.str n) rfl)).trans (Qy7 (h.ok n m) O)))).trans (oU (cT (aY (x:=.str n) rfl cut (QAG j))))
def Qv6{N:List (List Nat)}(h:Nms N)(O:au):Ao [dNm N] O=.ok .non O:=by
 obtain⟨f,c,q⟩:=M6 h O N [] none none rfl;unfold bCn at q;refine CP (b:=An) (ρ:=[some (dNm N),none,none]) (ρ2:=[some (dNm N),f,c]) ?_;unfold An;have l4:=h.l4;have l1:1<=N.length:=List.length_pos_iff.mpr h.ne
 have j:fQ gLe gLe (mC (.int 1)) (aK aP (aj (aa 0) ao)) (mC (.int 6)) [some (dNm N),none,none] O=.ok (.bl true) O:=by
  rw[Ht,show mC (.int 1) [some (dNm N),none,none] O=.ok (.int 1) O from rfl,aO,oR (l:=N.map D.str) rfl,aO,zd];show chF (some (.bl (decide ((1:Int)<=(N.length:Int))))) O _=_;rw[zu (by omega)];show Res.ok (D.bl (decide ((N.length:Int)<=6))) O=_;rw[zu (by omega)]
 refine(bc (oU (or_f (vG (vJ (d:=dNm N) (t:="list") rfl rfl)) ?_))).trans (lL ?_ q)
 ·rw[jN,cT j,aO];rfl
 ·rfl
section
variable {O:au}{M:Int}{N G:List (List Nat)}{ro rl hs K:Nat}{q:List Nat->Ix}{tt:List Nat->List Nat}{cl:List Nat->Bool}{a:List Nat}
def RW.lt(w:RW O M N G ro rl hs q tt cl K){b:List Nat}(hb:b∈N):(q b).hd<O.length/\(q b).rd<O.length/\(q b).mr<O.length/\(q b).n<O.length:=by
 obtain⟨⟨x,f⟩,⟨h1,u,d⟩,j,m,c⟩:=(w.hx b hb).ex;exact⟨fj f,fj d,fj c.1,fj c.2⟩
def RW.add(w:RW O M N G ro rl hs q tt cl K)(ha:a∉N){O1:au}{i:Ix}(hx:HnA O1 M i.hd i.rd i.mr i.n a [])(k:Kp O O1)(g1:O.length<=i.hd)(g2:O.length<=i.rd)(g3:O.length<=i.mr)(g4:O.length<=i.n){x:List (Key×D)}(I:O[hs]?=some (.dk x)):
  RW (O1.set hs (.dk (dj x (kyN a) (.ob i.hd)))) M (N++[a]) G ro rl hs (up q a i) (up tt a []) (up cl a false) K:=by
 obtain⟨L,l1,Q⟩:=w.rows;obtain⟨W,u,d0,R⟩:=w.hs;rw[I] at u;cases u;have y:=w.kp k;have c:=k _ _ I;have f:Fr O1 (O1.set hs (.dk (dj x (kyN a) (.ob i.hd)))) [hs]:=Fr.set;have Y:=Mz x (kyN a) (.ob i.hd);have U:=fj l1;refine⟨f _ _ (bx (aR "Roll" "" y.r c)) y.r,⟨L,f _ _ (bx (gb (k _ _ l1) c (λz=>nomatch z))) (k _ _ l1),Q⟩,⟨_,gs c,by rw[zf,zM];omega,λn C=>?_⟩,λn C=>?_,λb E d hd m=>?_,λb E=>?_⟩
 ·rw[rR]
  by_cases e:n=a
  ·rw[e,if_pos rfl,cV]
  ·rw[if_neg (λz=>e (CN z)),cJ e];exact R n ((zB.mp C).resolve_right λz=>e (zm.mp z))
 ·by_cases e:n=a
  ·rw[e,cV,cV,cV];unfold HX;rw[if_neg zv];exact⟨f _ _ (bx (aR "Hand" "" hx.1 c)) hx.1,f _ _ (bx (aR "Reader" "" hx.2.1 c)) hx.2.1,hx.2.2.fr f (bx (aR "Maker" "" hx.2.2.1 c)) (bx (gb hx.2.2.2 c (λz=>nomatch z)))⟩
  ·rw[cJ e,cJ e,cJ e];have h:=y.hx n ((zB.mp C).resolve_right λz=>e (zm.mp z));obtain⟨⟨c1,P⟩,⟨h1,Z,J⟩,T,X,F⟩:=h.ex;exact h.fr f (bx (aR "Hand" "" P c)) (bx (aR "Reader" "" J c)) (bx (aR "Maker" "" F.1 c)) (bx (gb F.2 c (λz=>nomatch z)))
 ·by_cases e:b=a
  ·have j:d≠a:=λz=>m (by rw[e,z])
   have:=w.lt ((zB.mp hd).resolve_right λz=>j (zm.mp z))
   rw[e,cV,cJ j];omega
  ·have hb':=(zB.mp E).resolve_right λz=>e (zm.mp z)
   have:=w.lt hb'
   by_cases j:d=a
   ·rw[j,cV,cJ e];omega
   ·rw[cJ e,cJ j];exact w.ne b hb' d ((zB.mp hd).resolve_right λz=>j (zm.mp z)) m
 ·by_cases e:b=a
  ·rw[e,cV];omega
  ·rw[cJ e];exact w.nl b ((zB.mp E).resolve_right λz=>e (zm.mp z))
end
def bRi:MS:=(lg (aX ["Roll"] "hands" (aa 0)) (aa 4) (dD "Hand" u6 (aj (aa 4) (aj (aa 2) ao))))
theorem M7{M:Int}(I:1<=M/\M<=200){G:List (List Nat)}{c F hs:Nat}(a1 d:Option D):∀(R P:List (List Nat)) (O:au) (q:List Nat->Ix) (f:Option D),(P++R).Nodup->(P++R).length<=100->RW O M P G c F hs q (λ_=>[]) (λ_=>false) 0 ->
  ∃j u b,bB (mgN 4) bRi (R.map D.str) [some (.ob c),a1,some (.int M),d,f] O=.nx [some (.ob c),a1,some (.int M),d,b] j/\RW j M (P++R) G c F hs u (λ_=>[]) (λ_=>false) 0
 | [],P,O,q,f,_,_,w=>⟨O,q,f,rfl,by rw[zJ];exact w⟩
 |n::R,P,O,q,f,nd,hl,w=>by
  obtain⟨X,J,Z,Y⟩:=w.hs;obtain⟨O1,m,e,hx,k,Q⟩:=Qz4 I n O (ma:=aj (aa 4) (aj (aa 2) ao)) (ρ:=[some (.ob c),a1,some (.int M),d,some (.str n)]) rfl
  have L:n∉P:=λz=>(jo.mp nd).2.2 n z n ze rfl
  have E:=w.add L (i:=⟨O.length,O.length+1,O.length+2,m⟩) hx k (zc _) (Nat.le_add_right _ _) (Nat.le_add_right _ _) Q J
  have U:up (λ_:List Nat=>([]:List Nat)) n []=λ_=>[]:=by funext x;unfold up;split<;>rfl
  have T:up (λ_:List Nat=>false) n false=λ_=>false:=by funext x;unfold up;split<;>rfl
  rw[U,T] at E;obtain⟨j,u,b,W,C⟩:=M7 I a1 d R (P++[n]) _ _ (some (.str n)) (by rw[zH];exact nd) (by rw[zH];exact hl) E;rw[zH] at C;rw[zf] at hl;refine⟨j,u,b,(jY (ρ1:=[some (.ob c),a1,some (.int M),d,some (.str n)]) rfl (MF (y:=.str n) (k:=kyN n) e (dw (y:=.ob hs) rfl (k _ _ w.r) ze rfl) rfl rfl (k _ _ J) (by omega))).trans W,C⟩
def Qy4{M:Int}(L:1<=M/\M<=200){N:List (List Nat)}(h:Nms N){O:au}{ma:L2.M (List D)}{ρ:aM}(J:ma ρ O=.ok [dNm N,.int M,.bl false] O):∃j F hs q,dD "Roll" Ar ma ρ O=.ok (.ob O.length) j/\RW j M N N O.length F hs q (λ_=>[]) (λ_=>false) 0:=by
 have U:(O++[Ob.ins "Roll" []])[O.length]?=some (.ins "Roll" []):=dX;have a1:(O++[Ob.ins "Roll" [("names",dNm N)]])[O.length]?=some (.ins "Roll" [("names",dNm N)]):=dX;have a2:(O++[Ob.ins "Roll" [("names",dNm N),("numbered",.bl false)]])[O.length]?=some (.ins "Roll" [("names",dNm N),("numbered",.bl false)]):=dX
 have m:(O++[Ob.ins "Roll" [("names",dNm N),("numbered",.bl false)]]).length=O.length+1:=by simp
 generalize hO2:O++[Ob.ins "Roll" [("names",dNm N),("numbered",.bl false)]]=c at *
 have C:(c++[Ob.ml []])[O.length]?=some (.ins "Roll" [("names",dNm N),("numbered",.bl false)]):=fJ _ _ a2
 have T:(c++[Ob.ml []])[O.length+1]?=some (.ml []):=by rw[<-m];exact dX
 have f3:Fr (c++[Ob.ml []]) ((c++[Ob.ml []]).set O.length (.ins "Roll" [("names",dNm N),("numbered",.bl false),("rows",.ob (O.length+1))])) [O.length]:=Fr.set
 have l3:((c++[Ob.ml []]).set O.length (.ins "Roll" [("names",dNm N),("numbered",.bl false),("rows",.ob (O.length+1))])).length=O.length+2:=by rw[zV,zf,m];rfl
 have R:=gs (y:=.ins "Roll" [("names",dNm N),("numbered",.bl false),("rows",.ob (O.length+1))]) C;have d3:=f3 _ _ (bx (by omega)) T
 generalize hO3:(c++[Ob.ml []]).set O.length (.ins "Roll" [("names",dNm N),("numbered",.bl false),("rows",.ob (O.length+1))])=f at *
 have u:(f++[Ob.dk []])[O.length]?=some (.ins "Roll" [("names",dNm N),("numbered",.bl false),("rows",.ob (O.length+1))]):=fJ _ _ R;have Q:(f++[Ob.dk []])[O.length+1]?=some (.ml []):=fJ _ _ d3
 have P:(f++[Ob.dk []])[O.length+2]?=some (.dk []):=by rw[<-l3];exact dX
 have f5:Fr (f++[Ob.dk []]) ((f++[Ob.dk []]).set O.length (mV N (O.length+1) (O.length+2))) [O.length]:=Fr.set;have w:RW ((f++[Ob.dk []]).set O.length (mV N (O.length+1) (O.length+2))) M [] N O.length (O.length+1) (O.length+2) (λ_=>⟨0,0,0,0⟩) (λ_=>[]) (λ_=>false) 0 :=
  ⟨gs u,⟨[],f5 _ _ (bx (by omega)) Q,rfl⟩,⟨[],f5 _ _ (bx (by omega)) P,Nat.zero_le _,λ_ z=>nomatch z⟩,λ_ z=>(nomatch z),λ_ z=>(nomatch z),λ_ z=>(nomatch z)⟩
 have l4:=h.l4;obtain⟨j,G,I,e,E⟩:=M7 L (some (dNm N)) (some (.bl false)) N [] _ _ none h.nd (by rw[zO];omega) w;unfold bRi at e;refine⟨j,O.length+1,O.length+2,G,M5 J (CP (b:=vp) (ρ:=[some (.ob O.length),some (dNm N),some (.int M),some (.bl false),none]) (ρ2:=[some (.ob O.length),some (dNm N),some (.int M),some (.bl false),I]) ?_),E⟩;unfold vp;refine(bc (Cj ((bA (ma1 (x:=dNm N) rfl)).trans (Qv6 h _)))).trans ?_;refine(bc (iw (n:=O.length) (d:=dNm N) (Bu (d:=dNm N) rfl rfl) rfl U ze (by decide))).trans ?_;rw[mU];refine(bc (iw (n:=O.length) (d:=.bl false) rfl rfl a1 ze (by show 1<900;decide))).trans ?_
 rw[mU];show aq _ _ _ (O++[Ob.ins "Roll" [("names",dNm N),("numbered",.bl false)]])=_;rw[hO2];refine(bc (iw (n:=O.length) (d:=.ob (O.length+1)) (O1:=c++[.ml []]) (by rw[<-m];rfl) rfl C ze (by show 2<900;decide))).trans ?_;show aq _ _ _ ((c++[Ob.ml []]).set O.length (.ins "Roll" [("names",dNm N),("numbered",.bl false),("rows",.ob (O.length+1))]))=_;rw[hO3];refine(bc (iw (n:=O.length) (d:=.ob (O.length+2)) (O1:=f++[.dk []]) (by rw[<-l3];rfl) rfl u ze (by show 3<900;decide))).trans ?_;exact lL (eZ (l:=N.map D.str) rfl) e
def rT       (h:m ρ O=.ok xs O1)(b:g (xs.map (aW O1))=some z):aK g m ρ O=.ok z O1:=by
 rw[qx,h,aO,b,gW]
def QwA(n:Int):∃l,Tok l/\∀O,vD [.int n] O=.ok (.str l) O:=by
 have tk:=QyS n;have tl:=tk.len;obtain⟨j,m,u⟩:=rQ _ (n:=(tok n).length+1) (by omega)
 have run:∀O l,(aq _
  _) [some _,some _] O=.rt (.str l) O->vD [.int n] O=.ok _ O:=λO l h=>by
  refine cU ?_;exact(bc (bw ((bA (ma1 rfl)).trans (QxW n O)))).trans h
 have d:∀O,ak _ (aC _ (aj (aa 0) (aj (mC (.int 10)) _))) (mC (.int 4)) [some (.int n),some (.str (tok n))] O=.ok _ O:=λO=>cX (dY rfl rfl (by decide) (by decide)) rfl (by decide)
 have f:∀O,ak _ (aC _ (aj (aa 0) (aj (mC (.int 11)) _))) (mC (.int 5)) [some (.int n),some (.str (tok n))] O=.ok _ O:=λO=>cX (dY rfl rfl (by decide) (by decide)) rfl (by decide)
 by_cases h1:mix n 10 % 4=0
 ·exact⟨[10],⟨by decide,by simp⟩,λO=>run O _ (by
   rw[cM,Cw (Cy (d O) rfl h1) rfl]
   rfl)⟩
 ·by_cases h2:mix n 11 % 5=0
  ·refine⟨(tok n).take j,⟨by rw[List.length_take];omega,λc q=>tk.ok c (List.mem_of_mem_take q)⟩,λO=>run O _ ((bc (rP (eq_n (d O) rfl h1))).trans ?_)⟩;rw[cM,Cw (Cy (f O) rfl h2) (slT rfl ((cX (dY rfl rfl (by decide) (by decide)) (add_n (b:=1) (rG rfl (by omega)) rfl) (by omega)).trans (by rw[m])) (by omega))];rfl
  ·exact⟨tok n,tk,λO=>run O _ ((bc (rP (eq_n (d O) rfl h1))).trans ((bc (rP (eq_n (f O) rfl h2))).trans rfl))⟩
structure Pcs(ps:List (List Nat)):Prop where
 ok:∀p∈ps,Tok p
 len:(ps.map List.length).sum<=9
def QsE(n:Int):∃ps,Pcs ps/\∀O,rz [.int n] O=.ok (.lst (ps.map D.str)) O:=by
 obtain⟨l,tk,e⟩:=QwA n;have tl:=tk.len
 have b:∀O,ak _ (aC _ (aj (aa 0) (aj (mC (.int 15)) _))) (mC (.int 2)) [some (.int n),some (.str l)] O=.ok _ O:=λO=>cX (dY rfl rfl (by decide) (by decide)) rfl (by decide)
 have run:∀O r,aq _
  _ [some _,some _] O=.rt r O->rz [.int n] O=.ok r O:=λO r h=>by
  refine cU ?_;exact(bc (bw ((bA (ma1 rfl)).trans (e O)))).trans h
 by_cases h1:mix n 15 % 2=0
 ·exact⟨[l],⟨λp d=>by rw[zm.mp d];exact tk,by simpa ⟩,λO=>run O _ (by
   rw[cM,Cw (Cy (b O) rfl h1) (QCx (ma1 rfl) (by show 1<=_;decide))]
   rfl)⟩
 ·refine⟨l.map λc=>[c],⟨λp d=>?_,?_⟩,λO=>run O _ ((bc (rP (eq_n (b O) rfl h1))).trans (fc ?_))⟩
  ·obtain⟨c,f,rfl⟩:=zA.mp d;exact⟨by show 1<=9;decide,λx hx=>by rw[zm.mp hx];exact tk.ok c f⟩
  ·have:∀l:List Nat,((l.map λc=>[c]).map List.length).sum=l.length:=λl=>by
    induction l with
    |nil=>rfl
    |cons a l j=>simp at j ⊢;omega
   rw[this];exact tl
  ·have z:=iU (g:=mgN 0) (t:=bN) (m:=aa 0) (λρ=>∃a,ρ=[a]) _ (λc=>D.str [c]) l _ O [] ⟨none,rfl⟩ (by
    rintro c f ρ ⟨a,rfl⟩
    exact⟨_,rfl,⟨_,rfl⟩,rfl,rfl⟩)
   rw[zR]
   exact lJ (by
    rw[ou,show aa 1 _ O=.ok _ O from rfl,aO,yq (Okt.asc ⟨by omega,tk.ok⟩)]
    rfl) (by rw[zd];omega) rfl z
def TX(O:au)(N:List (List Nat))(c:Nat)(d:List Nat->List Nat):Prop:=∃b,O[c]?=some (.dk b)/\b.length<=1000/\∀n∈N,cu b (kyN n)=some (.str (d n))
def TX.fr{O d:au}{N:List (List Nat)}{b:Nat}{c:List Nat->List Nat}{S:List Nat}(h:TX O N b c)(f:Fr O d S)(hs:b∉S):TX d N b c:=by
 obtain⟨j,q,u,m⟩:=h;exact⟨j,f _ _ hs q,u,m⟩
section
variable {O:au}{M:Int}{N G:List (List Nat)}{ro rl hs K tx:Nat}{q:List Nat->Ix}{tt:List Nat->List Nat}{cl:List Nat->Bool}{a:List Nat}
def RW.stx(w:RW O M N G ro rl hs q tt cl K){x:List (Key×D)}(d:O[tx]?=some (.dk x))(C:tx≠hs)(y:Ob):RW (O.set tx y) M N G ro rl hs q tt cl K:=by
 obtain⟨L,l1,u⟩:=w.rows;obtain⟨b,F,I,E⟩:=w.hs;have f:Fr O (O.set tx y) [tx]:=Fr.set;refine⟨f _ _ (bx (aR "Roll" "" w.r d)) w.r,⟨L,f _ _ (bx (gb l1 d (λz=>nomatch z))) l1,u⟩,⟨b,f _ _ (bx (Ne.symm C)) F,I,E⟩,λn h=>?_,w.ne,w.nl⟩;obtain⟨⟨R,m⟩,⟨h1,Q,j⟩,J,P,c⟩:=(w.hx n h).ex;exact(w.hx n h).fr f (bx (aR "Hand" "" m d)) (bx (aR "Reader" "" j d)) (bx (aR "Maker" "" c.1 d)) (bx (gb c.2 d (λz=>nomatch z)))
def RW.apart(w:RW O M N G ro rl hs q tt cl K)(m:a∈N){j:List (Key×D)}(d:O[tx]?=some (.dk j)):tx∉[(q a).hd,(q a).rd,(q a).mr,(q a).n,rl]:=by
 obtain⟨L,l1,P⟩:=w.rows;obtain⟨⟨Q,f⟩,⟨h1,J,c⟩,F,I,b⟩:=(w.hx a m).ex;have E:=aR "" "Hand" d f;have C:=aR "" "Reader" d c;have y:=aR "" "Maker" d b.1;have x:tx≠(q a).n:=gb d b.2 (λz=>nomatch z);have u:tx≠rl:=gb d l1 (λz=>nomatch z);simp[E,C,y,x,u]
end
def cnt(M:Int)(t:List Nat):Nat:=(rn M s0 (sI t)).2.length
def mTl(x y:L2.M D)(b:Bool):L2.M D:=aK aP (aj (ak gIx (aC iu (aj x (aj y (aj (mC (.bl b)) ao)))) (mC (.int 0))) ao)
def tl0{M:Int}(f:1<=M/\M<=200)  (d:Okt t)    (hx:x ρ O=.ok (.str t) O)(c:y ρ O=.ok (.int M) O):∃b,mTl x y false ρ O=.ok (.int (cnt M t:Int)) b/\Kp O b:=by
 refine⟨_,rT (fZ (jX ((bA (maS hx (maS c (ma1 rfl)))).trans (M4 f d O)) rfl rfl)) ?_,fJ⟩;show aP [aW _ _]=_;rw[iy dX];show some _=_;rw[zd];rfl
def tl1{M:Int}(j:1<=M/\M<=200)  (f:Okt t)    (hx:x ρ O=.ok (.str t) O)(c:y ρ O=.ok (.int M) O):∃b,mTl x y true ρ O=.ok (.int ((dZ M t).length:Int)) b/\Kp O b:=by
 obtain⟨d,e⟩:=Qvn j f O;refine⟨_,rT (fZ (jX ((bA (maS hx (maS c (ma1 rfl)))).trans e) rfl rfl)) ?_,fJ⟩;show aP [aW _ _]=_;rw[iy dX];show some _=_;rw[zd]
structure Wd(O:au)(M:Int)(N:List (List Nat))(ro rl hs tx:Nat)(q:List Nat->Ix)(tt:List Nat->List Nat)(cl:List Nat->Bool)(K B:Nat):Prop where
 w:RW O M N N ro rl hs q tt cl K
 t:TX O N tx tt
 ne:tx≠hs
 ok:∀n∈N,∀c∈tt n,(32<=c/\c<=125)\/c=10\/c=9
 len:∀n∈N,(tt n).length<=B
def QrQ    (h:cu kv k=some e):(dj kv k d).length=kv.length:=by
 unfold dj
 cases z:kv.any _ with
 |true=>rw[if_pos rfl,zd]
 |false=>rw[CJ kv z] at h;cases h
def cF(N:List (List Nat))(f:List Nat->Nat):Nat:=(N.map f).sum
theorem CT  {a:List Nat}{v:Nat}:∀{N:List (List Nat)},N.Nodup->a∈N->cF N (up f a v)+f a=cF N f+v
 |n::N,nd,h=>by
  obtain⟨c,b⟩:=List.nodup_cons.mp nd;show up f a v n+cF N _+f a=f n+cF N f+v
  by_cases e:n=a
  ·have:cF N (up f a v)=cF N f:=by
    unfold cF;rw[jd λx hx=>cJ λz=>c (by rw[e,<-z];exact hx)]
   rw[e,cV];omega
  ·have i:=CT (v:=v) b ((zl.mp h).resolve_left λz=>e z.symm) (f:=f);rw[cJ e];omega
theorem vX  :∀{N:List (List Nat)},(∀n∈N,f n<=b)->cF N f<=N.length * b
 | [],_=>Nat.zero_le _
 |n::N,h=>by
  have i:=vX λm c=>h m (zp _ c)
  have j:=h n ze;show f n+cF N f<=(N.length+1) * b;rw[Nat.succ_mul];omega
def M8{M:Int}(b:1<=M)  (c:Okt t):cnt M t<=t.length:=by
 have S:=si c;have a:=(iZ b _ s0 (lK b) λx hx=>S.i x (jk _ hx)).2;have l:=S.l;rw[zf] at l;unfold cnt;omega
section
variable {O:au}{M:Int}{N:List (List Nat)}{ro rl hs tx K B:Nat}{q:List Nat->Ix}{tt:List Nat->List Nat}{cl:List Nat->Bool}
def Wd.kp(w:Wd O M N ro rl hs tx q tt cl K B){b:au}(k:Kp O b):Wd b M N ro rl hs tx q tt cl K B:=⟨w.w.kp k,w.t.fr k.fr QCJ,w.ne,w.ok,w.len⟩
def Wd.okt(w:Wd O M N ro rl hs tx q tt cl K B)(c:B<=1000){n:List Nat}(b:n∈N):Okt (tt n):=⟨zG (w.len n b) (by omega),w.ok n b⟩
def Wd.sub(w:Wd O M N ro rl hs tx q tt cl K B){a:List Nat}(b:a∈N){mo my:L2.M D}{ρ:aM}(h1:mo ρ O=.ok (.ob tx) O)(h2:my ρ O=.ok (.str a) O):cQ mo my ρ O=.ok (.str (tt a)) O:=by
 obtain⟨f,d,j,c⟩:=w.t;exact pB h1 h2 rfl d (c a b)
end
abbrev up'(tt:List Nat->List Nat)(a p:List Nat):List Nat->List Nat:=up tt a (tt a++p)
def bIn:MS:=(aq (aB 9 (mTl (cQ (aa 5) (aa 7)) (aa 3) false))
  (aq (lg (aa 5) (aa 7) (ak aJ (cQ (aa 5) (aa 7)) (aa 8)))
  (aq (aB 10 (ak dO (mTl (cQ (aa 5) (aa 7)) (aa 3) false) (aa 9)))
  (aD (bL (az (ak gNe (aK aP (aj (aN "Roll" "feed" vz (aa 4) (aj (aa 7) (aj (aa 8) ao))) ao)) (aa 10))) (bY (bj (aC oO (aj (aa 4) (aj (aa 7) (aj (cQ (aa 5) (aa 7)) (aj (aa 3) ao)))))))) (aA (mC (.bl false))) aG))))
def M9     (c:a ρ O=.ok (.int i) O1)(hb:b ρ O1=.ok (.int j) O1):ak dO a b ρ O=.ok (.int (i - j)) O1:=jX c hb rfl
def op:List Nat->Bool:=λ_=>false
def QAI(a:List Nat):up op a false=op:=by funext x;unfold up op;split<;>rfl
def eI(X:D)(c0:Option D)(N:List (List Nat))(M:Int)(u q:Nat)(m j f d c b:Option D):aM:=[some X,c0,some (dNm N),some (.int M),some (.ob u),some (.ob q),m,j,f,d,c,b]
def Qw3    {M:Int}(C:1<=M/\M<=200)  (hN:Nms N)    (w:Wd O M N ro rl hs tx q tt op K B)(hK:K=cF N λn=>cnt M (tt n))  (m:a∈N)(Z:Tok p)(hB:B+p.length<=1000):
  ∃O' q' y9 R,bIn (eI X c0 N M ro tx x6 (some (.str a)) (some (.str p)) x9 x10 x11) O=.nx (eI X c0 N M ro tx x6 (some (.str a)) (some (.str p)) y9 R x11) O'/\Wd O' M N ro rl hs tx q' (up' tt a p) op (cF N λn=>cnt M (up' tt a p n)) (B+p.length):=by
 have L:=w.okt (by omega) m;have T:Okt p:=⟨by omega,Z.ok⟩;have j:Okt (tt a++p):=⟨by rw[zf];have:=w.len a m;omega,λc hc=>(zB.mp hc).elim (L.ok c) (Z.ok c)⟩;obtain⟨O1,e1,k1⟩:=tl0 C L (ρ:=eI X c0 N M ro tx x6 (some (.str a)) _ x9 x10 x11) (w.sub m (mo:=aa 5) (my:=aa 7) rfl rfl) (y:=aa 3) rfl;have U:=w.kp k1;obtain⟨W,F,d0,Q⟩:=U.t;have P:=gs (y:=Ob.dk (dj W (kyN a) (.str (tt a++p)))) F;have r2:=U.w.stx F w.ne (.dk (dj W (kyN a) (.str (tt a++p))));have pl:=QrQ (d:=.str (tt a++p)) (Q a m)
 generalize hO2:O1.set tx _=O2 at *
 have s2:cQ (aa 5) (aa 7) (eI X c0 N M ro tx x6 (some (.str a)) (some (.str p)) (some (.int (cnt M (tt a):Int))) x10 x11) O2=.ok _ O2:=pB (y:=.str a) (k:=kyN a) rfl rfl rfl P (by rw[rR,if_pos rfl]);obtain⟨O3,e3,J⟩:=tl0 C j s2 (y:=aa 3) rfl;have I:=r2.kp J
 obtain⟨O4,A,n',e4,al,G,f4⟩:=I.feed C hN m m rfl L T j (by
  have:=vX (b:=1000) (N:=N) λn u=>zG (M8 C.1 (w.okt (by omega) u)) (zG (w.len n u) (by omega))
  have:=hN.l4
  omega)
 rw[QAI] at G;have d4:=f4 tx _ (I.apart m (J _ _ P)) (J _ _ P)
 have cn:cnt M (tt a++p)=cnt M (tt a)+A.length:=by
  unfold cnt;rw[(Ci j).1,rN,zf,al]
 have E:up' tt a p a=tt a++p:=cV;have h5:=G.right C m rfl (by show Okt (up' tt a p a);rw[E];exact j);rw[(cV)] at h5;obtain⟨O5,e5,Y⟩:=h5
 have sK:cF N (λn=>cnt M (up' tt a p n))=K+A.length:=by
  have e:(λn=>cnt M (up' tt a p n))=up (λn=>cnt M (tt n)) a (cnt M (tt a++p)):=by
   funext n
   unfold up' up
   split<;>rfl
  have:=CT (f:=λn=>cnt M (tt n)) (v:=cnt M (tt a++p)) hN.nd m
  rw[e];omega
 refine⟨O5,up q a ⟨(q a).hd,(q a).rd,(q a).mr,n'⟩,some (.int (cnt M (tt a):Int)),some (.int ((cnt M (tt a++p):Int) - (cnt M (tt a):Int))),?_,?_⟩
 ·refine(bc (mQ e1)).trans ?_;refine(bc (MF (k:=kyN a) (jZ (x:=tt a) (y:=p) (pB rfl rfl rfl F (Q a m)) rfl (by have:=j.len;rw[zf] at this;omega)) rfl rfl rfl F (by omega))).trans ?_;rw[hO2];refine(bc (mQ (M9 e3 rfl))).trans ?_;refine ifN (Bp (Br (jX (rT (fZ ((cY (n:=ro) rfl I.r rfl (maS rfl (ma1 rfl))).trans e4)) rfl) rfl ?_)) (Bo ((bA (maS rfl (maS rfl (maS (pB (k:=kyN a) rfl rfl rfl d4 (by rw[rR,if_pos rfl])) (ma1 rfl))))).trans e5)));rw[gY,gY,yr,zu (by rw[cn];push_cast;omega)];rfl
 ·refine⟨?_,⟨_,Y _ _ d4,by omega,λn u=>?_⟩,w.ne,λn u=>?_,λn u=>?_⟩
  ·rw[sK];exact G.kp Y
  ·rw[rR]
   by_cases e:n=a
   ·rw[e,if_pos rfl,E]
   ·rw[if_neg (λz=>e (CN z)),Q n u];exact congrArg (λx=>some (D.str x)) (cJ e).symm
  ·by_cases e:n=a
   ·rw[e,E];exact j.ok
   ·rw[show up' tt a p n=tt n from cJ e];exact w.ok n u
  ·have l1:=w.len n u
   by_cases e:n=a
   ·rw[e] at l1;rw[e,E,zf];omega
   ·rw[show up' tt a p n=tt n from cJ e];omega
theorem Nb  {c0 J j:Option D}{M:Int}(Q:1<=M/\M<=200){N:List (List Nat)}(hN:Nms N){C L hs y:Nat}{a:List Nat}(P:a∈N):∀(ps:List (List Nat)) (O:au) (q:List Nat->Ix) (d:List Nat->List Nat) (B:Nat) (u m b:Option D),(∀p∈ps,Tok p)->B+(ps.map List.length).sum<=1000->Wd O M N C L hs y q d op (cF N λn=>cnt M (d n)) B ->
  ∃E G c U F f,bB (mgN 8) bIn (ps.map D.str) (eI X c0 N M C y J (some (.str a)) u m b j) O=.nx (eI X c0 N M C y J (some (.str a)) U F f j) E/\Wd E M N C L hs y G c op (cF N λn=>cnt M (c n)) (B+(ps.map List.length).sum)
 | [],O,q,d,B,u,m,b,_,_,w=>⟨O,q,d,u,m,b,rfl,w⟩
 |p::ps,O,q,d,B,u,m,b,hp,hB,w=>by
  rw[zg,List.sum_cons] at hB;obtain⟨O1,Z,F,f,e,Y⟩:=Qw3 Q hN w rfl P (hp p ze) (by omega);obtain⟨E,G,c,T,R,I,e2,W⟩:=Nb Q hN P ps O1 Z _ _ _ F _ (λx hx=>hp x (zp _ hx)) (by omega) Y;refine⟨E,G,c,T,R,I,(jY rfl e).trans e2,?_⟩;rw[zg,List.sum_cons,<-Nat.add_assoc];exact W
def Nf:MS:=(aq (aB 7 (ak gIx (aa 2) (ak bC (aC cN (aj (aa 6) (aj (mC (.int 3)) ao))) (aK aP (aj (aa 2) ao)))))
  (aq (cA (bF (aC rz (aj (aa 6) ao))) (mgN 8) bIn)
  (aq (aB 11 (ak gIx (aa 2) (ak bC (aC cN (aj (aa 6) (aj (mC (.int 16)) ao))) (aK aP (aj (aa 2) ao)))))
  (aD (bY (bj (aC oO (aj (aa 4) (aj (aa 11) (aj (cQ (aa 5) (aa 11)) (aj (aa 3) ao))))))) (aA (mC (.bl false))) aG))))
def Ng  (hN:Nms N)(v:Int):∃a∈N,gIx (dNm N) (.int (v % (N.length:Int)))=some (.str a):=by
 have :=List.length_pos_iff.mpr hN.ne;obtain⟨d,hd,e⟩:=ixL (l:=N.map D.str) (by rw[zd]) (by omega);obtain⟨a,b,rfl⟩:=zA.mp hd;exact⟨a,b,e⟩
theorem Nh  {c0:Option D}{M:Int}(U:1<=M/\M<=200){N:List (List Nat)}(hN:Nms N){J rl hs I:Nat}:∀(j:List Int) (O:au) (q:List Nat->Ix) (m:List Nat->List Nat) (B:Nat) (F E x u d c:Option D),B+9 * j.length<=1000->Wd O M N J rl hs I q m op (cF N λn=>cnt M (m n)) B ->
  ∃L R f y6 y7 Q P C Z,bB (mgN 6) Nf (j.map D.int) (eI X c0 N M J I F E x u d c) O=.nx (eI X c0 N M J I y6 y7 Q P C Z) L/\Wd L M N J rl hs I R f op (cF N λn=>cnt M (f n)) (B+9 * j.length)
 | [],O,q,m,B,F,E,x,u,d,c,_,w=>⟨O,q,m,F,E,x,u,d,c,rfl,w⟩
 |i::j,O,q,m,B,F,E,x,u,d,c,hB,w=>by
  rw[zz] at hB;have nl :=List.length_pos_iff.mpr hN.ne;obtain⟨a,ha,ea⟩:=Ng hN _;obtain⟨b,T,eb⟩:=Ng hN _;obtain⟨ps,pc,es⟩:=QsE i;have pl:=pc.len;obtain⟨O1,q1,tt1,Q,P,C,e1,G⟩:=Nb U hN ha ps O q m B x u _ pc.ok (by omega) w;obtain⟨O2,e2,k2⟩:=G.w.right U T rfl (G.okt (by omega) T);have y:=G.kp k2;obtain⟨L,R,f,z6,z7,z8,z9,Y,W,e3,w3⟩:=Nh U hN j O2 q1 _ (B+9) _ _ Q P _ _ (by omega) ⟨y.w,y.t,y.ne,y.ok,λn hn=>zG (y.len n hn) (by omega)⟩;refine⟨L,R,f,z6,z7,z8,z9,Y,W,(jY rfl ?_).trans e3,by rw[zz,show B+9 * (j.length+1)=B+9+9 * j.length by omega];exact w3⟩
  refine(bc (bw (aY rfl (cX (dY rfl rfl (by decide) (by decide)) (oR rfl) (by rw[zd];omega)) (by rw[zd];exact ea)))).trans ?_;refine(bc (lL (eZ ((bA (ma1 rfl)).trans (es O))) e1)).trans ?_;refine(bc (bw (aY rfl (cX (dY rfl rfl (by decide) (by decide)) (oR rfl) (by rw[zd];omega)) (by rw[zd];exact eb)))).trans ?_;exact ifN (Bo ((bA (maS rfl (maS rfl (maS (G.sub T rfl rfl) (ma1 rfl))))).trans e2))
def QtM{α:Type}(f:α->Int)(l:List α)(h:∀x∈l,0<=f x/\f x<=1000000)(c:l.length<=1000000):nH [.lst (l.map λx=>.int (f x))]=some (.int (l.map f).sum):=by
 unfold nH
 dsimp
 rw[Cr];show(if _ then _ else _)=_;rw[if_pos];rw[zx,jc];refine⟨λn b=>?_,zu (by rw[zd];exact c)⟩;obtain⟨x,hx,rfl⟩:=zA.mp b
 have:=h x hx
 simp[this]
def tot(M:Int)(b:List Nat->List Nat)(cl:List Nat->Bool)(n:List Nat):Nat:=if cl n=true then(dZ M (b n)).length else cnt M (b n)
def Ni{M:Int}(b:1<=M)  (c:Okt t):(dZ M t).length<=t.length+1:=by
 have S:=si c;have a:=(iZ b _ s0 (lK b) S.i).2;have l:=S.l
 have:=MN (M:=M) (t:=t)
 unfold dZ;rw[zf];omega
def Qvy   :up f a (f a)=f:=by
 funext x
 unfold up
 split
 ·rename_i h;rw[h]
 ·rfl
def bCl:MS:=(aq (aB 9 (mTl (cQ (aa 5) (aa 7)) (aa 3) false))
  (aq (aD (az (ak gNe (aK aP (aj (aN "Roll" "close" vA (aa 4) (aj (aa 7) ao)) ao)) (ak dO (mTl (cQ (aa 5) (aa 7)) (aa 3) true) (aa 9)))) (aA (mC (.bl false))) aG)
  (aD (az (qd true 4 (aN "Roll" "held_of" oM (aa 4) (aj (aa 7) ao)) (aU (aj (mC (.str [])) (aj (bh ao) ao))))) (aA (mC (.bl false))) aG)))
def QyV :cW (O++[Ob.ml []]) 4 (.tup [.str [],.ob O.length])=.tup [.str [],.lst []]:=by
 simp[cW]
theorem Nj  {c0:Option D}{M:Int}(I:1<=M/\M<=200){N:List (List Nat)}(hN:Nms N){E rl hs G B:Nat}(hB:B<=1000)(Q P C m:Option D){c:List Nat->List Nat}:∀(R:List (List Nat)) (O:au) (q:List Nat->Ix) (cl:List Nat->Bool) (U L:Option D),(∀n∈R,n∈N/\cl n=false)->R.Nodup->Wd O M N E rl hs G q c cl (cF N (tot M c cl)) B ->
  ∃Y q' d y7 Z,bB (mgN 7) bCl (R.map D.str) (eI X c0 N M E G Q U P L C m) O=.nx (eI X c0 N M E G Q y7 P Z C m) Y/\(∀n∈R,d n=true)/\(∀n,cl n=true->d n=true)/\Wd Y M N E rl hs G q' c d (cF N (tot M c d)) B
 | [],O,q,cl,U,L,_,_,w=>⟨O,q,cl,U,L,rfl,λ_ z=>(nomatch z),λ_ h=>h,w⟩
 |a::R,O,q,cl,U,L,hR,nd,w=>by
  obtain⟨F,hc⟩:=hR a ze;have ht:=w.okt hB F;obtain⟨O1,e1,k1⟩:=tl0 I ht (ρ:=eI X c0 N M E G Q (some (.str a)) P L C m) (w.sub F (mo:=aa 5) (my:=aa 7) rfl rfl) (y:=aa 3) rfl;have W:=w.kp k1;obtain⟨kv,d1,d0,d2⟩:=W.t
  have kb:cF N (tot M c cl)<=100000:=by
   have:=vX (f:=tot M c cl) (b:=1001) (N:=N) λn j=>by
    have o:=w.okt hB j;have l:=w.len n j;have u:=M8 I.1 o;have v:=Ni I.1 o;unfold tot
    split<;>omega
   have h4:=hN.l4;omega
  obtain⟨O2,A,n',e2,al,r2,f2⟩:=W.w.close I hN F F hc ht kb;rw[Qvy] at r2;have d3:=f2 G _ (W.w.apart F d1) d1
  have cn:(dZ M (c a)).length=cnt M (c a)+A.length:=by
   unfold dZ cnt;rw[rN,zH,zf,al]
  obtain⟨J,e3,k3⟩:=tl1 I ht (ρ:=eI X c0 N M E G Q (some (.str a)) P _ C m) (x:=cQ (aa 5) (aa 7)) (pB (y:=.str a) (k:=kyN a) rfl rfl rfl d3 (d2 a F)) (y:=aa 3) rfl;have T:=r2.kp k3;have hx:=T.hx a F;unfold HX at hx;rw[cV,if_pos rfl,cV] at hx;obtain⟨h1,⟨p,h2⟩,lw,h3⟩:=hx;obtain⟨kv2,g1,g0,g2⟩:=T.hs;have g3:=g2 a F;rw[cV] at g3;have ho:oM [.ob E,.str a] J=.ok _ (J++[Ob.ml []]):=MP T.r g1 g3 h1 h2 h3
  have sK:cF N (tot M c (up cl a true))=cF N (tot M c cl)+A.length:=by
   have e:tot M c (up cl a true)=up (tot M c cl) a ((dZ M (c a)).length):=by
    funext n
    unfold tot up
    by_cases z:n=a
    ·rw[if_pos z,if_pos z,if_pos rfl,z]
    ·rw[if_neg z,if_neg z]
   have s:=CT (f:=tot M c cl) (v:=(dZ M (c a)).length) hN.nd F
   have t0:tot M c cl a=cnt M (c a):=by unfold tot;rw[hc,if_neg zv]
   rw[e];omega
  have w4:Wd (J++[Ob.ml []]) M N E rl hs G (up q a ⟨(q a).hd,(q a).rd,(q a).mr,n'⟩) c (up cl a true) (cF N (tot M c (up cl a true))) B:=by
   rw[sK];exact⟨T.kp fJ,⟨kv,fJ _ _ (k3 _ _ d3),d0,d2⟩,w.ne,w.ok,w.len⟩
  obtain⟨na,nr⟩:=List.nodup_cons.mp nd;obtain⟨Y,q',d,y7,Z,e5,c1,c2,w5⟩:=Nj I hN hB Q P C m R _ _ (up cl a true) (some (.str a)) _ (λn j=>⟨(hR n (zp _ j)).1,by rw[cJ (λz=>na (by rw[<-z];exact j))];exact(hR n (zp _ j)).2⟩) nr w4;have ca:d a=true:=c2 a cV;refine⟨Y,q',d,y7,Z,(jY rfl ?_).trans e5,λn j=>?_,λn j=>?_,w5⟩
  ·unfold bCl;refine(bc (mQ e1)).trans ?_;refine(bc (ifN (Br (jX (rT (fZ ((cY (n:=E) rfl W.w.r rfl (ma1 (x:=.str a) rfl)).trans e2)) rfl) (M9 e3 rfl) ?_)))).trans (ifN (Br ?_))
   ·rw[gY,gY,yr,zu (by rw[cn];push_cast;omega)];rfl
   ·unfold qd;rw[(cY (n:=E) (mo:=aa 4) rfl T.r rfl (ma1 (x:=.str a) rfl)).trans ho,aO,show aU _ _ (J++[Ob.ml []])=.ok _ (J++[Ob.ml []]) from rfl,aO]
    have ok:okE (.tup [.str [],.lst []])=true:=by decide +kernel
    rw[QyV,show cW (J++[Ob.ml []]) 4 _=.tup [.str [],.lst []] from rfl,ok,Bool.and_self,if_pos rfl,if_pos rfl,yt ok];rfl
  ·rcases zl.mp j with rfl | j
   ·exact ca
   ·exact c1 n j
  ·refine c2 n ?_
   by_cases z:n=a
   ·rw[z,cV]
   ·rw[cJ z];exact j
theorem Nk{M:Int}(C:1<=M/\M<=200){N:List (List Nat)}{G I hs d K B:Nat}(E:B<=1000){q:List Nat->Ix}{f:List Nat->List Nat}{cl:List Nat->Bool}:∀(R:List (List Nat)) (O:au) (b:List D) (o:Option D),(∀n∈R,n∈N)->Wd O M N G I hs d q f cl K B ->
  ∃c,cj (mgN 0) bN (mTl (cQ (aa 2) (aa 0)) (aa 1) true) (R.map D.str) [o,some (.int M),some (.ob d)] O b=.ok (b++R.map λn=>.int ((dZ M (f n)).length:Int)) c/\Kp O c
 | [],O,b,o,_,_=>⟨O,by simp ,λ_ _ h=>h⟩
 |n::R,O,b,o,hR,w=>by
  have u:=hR n ze;obtain⟨Q,P,j⟩:=tl1 C (w.okt E u) (ρ:=[some _,some _,some _]) (w.sub u (mo:=aa 2) (my:=aa 0) rfl rfl) (y:=aa 1) rfl;obtain⟨c,F,J⟩:=Nk C E R Q _ _ (λm L=>hR m (zp _ L)) (w.kp j);refine⟨c,?_,j.trans J⟩;rw[zH] at F
  show(match mTl _ _ _ [some _,some _,some _] O with
   | .ok y O2=>cj _ _ _ _ _ O2 _
   | .ex x c=>.ex x c
   | .no=>.no)=_
  rw[P];exact F
theorem Nm:∀N:List (List Nat),mj (N.map λn=>.tup [.str n,.str []])=some (N.map λn=>(kyN n,.str []))
 | []=>rfl
 |n::N=>by
  have i:=Nm N;simp  [mj,i];rfl
theorem Np:∀(R:List (List Nat)) (P:List (List Nat)) (b:List (Key×D)),b.length<=P.length->(∀n∈P,cu b (kyN n)=some (.str []))->(((R.map λn=>(kyN n,D.str [])).foldl (λc p=>dj c p.1 p.2) b).length<=(P++R).length/\∀n∈P++R,cu ((R.map λn=>(kyN n,D.str [])).foldl (λc p=>dj c p.1 p.2) b) (kyN n)=some (.str []))
 | [],P,b,hl,h=>by rw[zJ];exact⟨hl,h⟩
 |a::R,P,b,hl,h=>by
  have f:=Mz b (kyN a) (.str [])
  have i:=Np R (P++[a]) (dj b (kyN a) (.str [])) (by rw[zf,zM];omega) λn d=>by
   rw[rR]
   split
   ·rfl
   ·rename_i z;exact h n ((zB.mp d).resolve_right λy=>z (by rw[zm.mp y]))
  rw[zH] at i;exact i
def Qs7(ns:List Int)(hn:ns.length<=63):∃O',J1 [.lst (ns.map D.int)] []=.ok (.bl true) O':=by
 obtain⟨v,ev⟩:=Qzz ns [];obtain⟨m,hm,hm2⟩:=rQ (mix v 33) (n:=3) (by decide);obtain⟨N,hN,eN⟩:=QvH v (m:=1+m) (by omega) (by omega) []
 have u:(1:Int)<=1+mix v 34 % 9/\1+mix v 34 % 9<=200:=by
  omega
 generalize hMM:1+mix v 34 % 9=M at u
 obtain⟨O1,rl,hs,q,e4,Q⟩:=Qy4 u hN (O:=[]) (ma:=maD (aj (aa 2) (aj (aa 3) ao)) (.bl false)) (ρ:=[some (.lst (ns.map D.int)),some (.int v),some (dNm N),some (.int M),none,none,none,none,none,none,none,none]) rfl
 have z:=iU (g:=mgN 0) (t:=bN) (m:=aU (aj (aa 0) (aj (mC (.str [])) ao))) (λρ=>∃a,ρ=[a]) D.str (λn=>.tup [.str n,.str []]) N [none] O1 [] ⟨none,rfl⟩ (by
  rintro n hn' ρ ⟨a,rfl⟩
  exact⟨_,rfl,⟨_,rfl⟩,rfl,rfl⟩)
 rw[zO] at z;have l4:=hN.l4;have F:=Np N [] [] (zc _) (λ_ y=>nomatch y);rw[zO] at F;obtain⟨ml,F⟩:=F
 have dc:uy (aj (b7 (bF (aa 2)) 1 [] (mgN 0) bN (aU (aj (aa 0) (aj (mC (.str [])) ao)))) ao) [some (.lst (ns.map D.int)),some (.int v),some (dNm N),some (.int M),some (.ob 0),none,none,none,none,none,none,none] O1=.ok (.ob O1.length) (O1++[.dk (qt (N.map λn=>(kyN n,D.str [])))]):=by
  unfold uy;rw[ma1 (lJ (m:=bF (aa 2)) (own:=1) (cap:=[]) (eZ (l:=N.map D.str) rfl) (by rw[zd];omega) rfl z),aO]
  show(match mj (N.map λn=>.tup [.str n,.str []]) with
   |some E=>if E.length<=1000000 then Res.ok (D.ob O1.length) (O1++[Ob.dk (qt E)]) else .no
   |none=>.no)=_
  rw[Nm];exact if_pos (by rw[zd];omega)
 have tn:O1.length≠hs:=by
  obtain⟨kv,g1,_⟩:=Q.hs;exact Nat.ne_of_gt (fj g1)
 have c0:∀M,cnt M []=0:=λ_=>rfl
 have W0:Wd (O1++[Ob.dk (qt (N.map λn=>(kyN n,D.str [])))]) M N 0 rl hs O1.length q (λ_=>[]) op (cF N λ_=>cnt M []) 0:=by
  have:cF N (λ_=>cnt M [])=0:=Nat.le_zero.mp (by have:=vX (f:=λ_=>cnt M []) (b:=0) (N:=N) λn _=>Nat.le_of_eq (c0 M);omega)
  rw[this];exact⟨Q.kp fJ,⟨_,dX,zG ml (by omega),F⟩,tn,λ_ _ _ y=>(nomatch y),λ_ _=>zc _⟩
 obtain⟨O2,q2,j,y6,Z,Y,W,P,J,T,W2⟩:=Nh (X:=.lst (ns.map D.int)) (c0:=some (.int v)) u hN ((ns.drop 1).take 24) _ q (λ_=>[]) 0 none none none none none none (by rw[List.length_take,List.length_drop];omega) W0
 have G:0+9 * ((ns.drop 1).take 24).length<=1000:=by rw[List.length_take,List.length_drop];omega
 have W3 :=W2;obtain⟨U,q3,cl,z7,z9,R,c1,_,C⟩:=Nj (X:=.lst (ns.map D.int)) (c0:=some (.int v)) u hN G y6 Y P J N O2 q2 op Z W (λn h=>⟨h,rfl⟩) hN.nd W3;obtain⟨L,l1,l2⟩:=C.w.rows;obtain⟨O4,I,k8⟩:=Nk u G N U [] none (λ_ h=>h) C;rw[zO] at I
 have tE:cF N (tot M j cl)=cF N λn=>(dZ M (j n)).length:=by
  unfold cF;rw[jd λn h=>show tot M j cl n=(dZ M (j n)).length by unfold tot;rw[c1 n h,if_pos rfl]]
 have gs':nH [.lst (N.map λn=>.int ((dZ M (j n)).length:Int))]=some (.int (L.length:Int)):=by
  rw[QtM (λn=>((dZ M (j n)).length:Int)) N (λn h=>by
   have a:=Ni u.1 (C.okt G h);have b:=C.len n h
   omega) (by omega),l2,tE]
  have:∀l:List (List Nat),(l.map λn=>((dZ M (j n)).length:Int)).sum=((cF l λn=>(dZ M (j n)).length:Nat):Int):=λl=>by
   induction l with
   |nil=>rfl
   |cons a l ih =>
    rw[zg,List.sum_cons,ih]
    push_cast
    rfl
  rw[this]
 have sl:∀(ρ:aM) (O:au),bF (mSl (aa 0) (moS (mC (.int 1))) (moS (mC (.int 25)))) (some (.lst (ns.map D.int))::ρ) O=.ok (((ns.drop 1).take 24).map D.int) O:=λρ O=>by
  rw[ou];show(ofO (gSl (aW O (.lst (ns.map D.int))) (some 1) (some 25)) O).bind _=_;rw[nW,Hw,gW,aO,show(some 1:Option Int)=some ((1:Nat):Int) from rfl,show(some 25:Option Int)=some ((25:Nat):Int) from rfl,BP,<-List.map_drop,<-List.map_take];rfl
 refine⟨O4,cU (b:=Bk) ?_⟩;unfold Bk;unfold Nf bIn mTl at T;unfold bCl mTl at R;unfold mTl at I;refine(bc (bw ((bA (maS (x:=.lst (ns.map D.int)) rfl (ma1 (x:=.int 0) rfl))).trans ev))).trans ?_;refine(bc (bw ((bA (maS (x:=.int v) rfl (ma1 (add_n (a:=1) (b:=m) rfl ((cX (dY (c:=v) rfl rfl (by decide) (by decide)) rfl (by decide)).trans (by rw[<-hm];rfl)))))).trans eN))).trans ?_;refine(bc (bw (d:=.int M) ((jW rfl (cX (dY (c:=v) rfl rfl (by decide) (by decide)) rfl (by decide))).trans (by rw[hMM])))).trans ?_;refine(bc (mQ e4)).trans ?_;refine(bc (mQ dc)).trans ?_
 refine(bc (lL (sl _ _) T)).trans ?_;refine(bc (lL (eZ (l:=N.map D.str) rfl) R)).trans ?_;refine fc (jX (x:=.int (L.length:Int)) (O1:=U) (iW (ma1 ((cY (n:=0) rfl C.w.r rfl rfl).trans (Qqr C.w.r l1))) rfl) (rT (fZ (lJ (m:=bF (aa 2)) (own:=1) (cap:=[3,5]) (eZ (l:=N.map D.str) rfl) (by rw[zd];omega) rfl I)) gs') ?_);rw[gY,show gEq (.int (L.length:Int)) (.int (L.length:Int))=some (.bl (decide ((L.length:Int)=(L.length:Int)))) from rfl,zu rfl]
def mkK{K:PySem.W.Frag}{h:Heap}{mg:Str->Option Value}{x:Str}{u:Value}{v:V}(X:K.In h)(G:h.Ns mainGlobals mg)(a:PySem.W.nsIn K mainGlobals x=some (some u))(r:RelV v u):∃u,mg x=some u/\RelV v u:=⟨_,PySem.W.mg_of X G a,r⟩
def mkT{K:PySem.W.Frag}{h:Heap}{mg:Str->Option Value}{x:Str}{p:Addr}{c:Value}{d:Option Addr}{i:Array Value}{n:Nat}{s:Array (Option Value)}{ls:List (List Nat)}(X:K.In h)(G:h.Ns mainGlobals mg)(a:PySem.W.nsIn K mainGlobals x=some (some (.ref p)))(l:K.lookup p=some ⟨c,d,.seq i n,s⟩)(t:c=.type "tuple")(z:i.size<=sizeLine)(v:aF (ls.map λl=>V.str (S l)) i.toList):tZ K mg x ls:=⟨_,_,_,_,PySem.W.mg_of X G a,l,t,rfl,z,v⟩
def fin{l:PySem.W.OpenLaw}{w:World}{K:PySem.W.Frag}{h:Heap}{mg:Str->Option Value}{fa:Addr}(X:K.In h)(G:h.Ns mainGlobals mg)(d:mg "law" = some (.ref fa))
  {L J I E C y:Addr}{f x:Option Addr}{j:Array (Option Value)}{m u T R Q P:Value}
  (O:PySem.W.nsIn K mainGlobals "law" = some (some (.ref L))) (q:K.lookup L=some ⟨m,f,.func (PySem.W.fnOf "law" "law" (dI jR) (cL jR) (aZ jR) .none u T R x Q P),j⟩)
  (F:(ClsAt K "Reader" J)->(ClsAt K "Maker" I)->(ClsAt K "Hand" E)->(ClsAt K "Leaps" C)->(ClsAt K "Roll" y)->∀base,Fc l.prog w K mg base) (z0:ClsAt K "Reader" J) (z1:ClsAt K "Maker" I) (z2:ClsAt K "Hand" E) (Z:ClsAt K "Leaps" C) (Y:ClsAt K "Roll" y):
  ∃fd:FuncData,(∀(s:Shared) (v:Value),BindsTo s fd ⟨[v],[]⟩ [("_law_script",v)])/\∀base:Heap,K.In base->base.Ns mainGlobals mg->cG l.prog w K mg base CX0 12 fa fd ["_law_script"] (tX K):=by
 have e:=d.symm.trans (PySem.W.mg_of X G O);cases e;refine⟨PySem.W.fnOf "law" "law" (dI jR) (cL jR) (aZ jR) .none u T R x Q P,λs v=>.of_eq rfl,λbase _ _=>?_⟩;obtain⟨f',fd',c,hk',hb',F',oc',od',U,b⟩:=Qyo (F z0 z1 z2 Z Y base);have e2:=(PySem.W.mg_of X G O).symm.trans c;cases e2;have e3:=q.symm.trans b;cases e3;exact F'.imp (Xz Qs7)
def walk{l:PySem.W.OpenLaw}      {K:Params->PySem.W.Frag}(hn:l.most=some 63)(hdf:d.params.defaults=[])
  (hY:∀(w:World) (h:Heap),YP w h->(K w.params).In h)
  (F:∀(w:World) (mg:Str->Option Value) (fa:Addr) (h:Heap),(K w.params).In h->h.Ns mainGlobals mg->mg d.name=some (.ref fa) ->
   ∃fd:FuncData,(∀(s:Shared) (u:Value),BindsTo s fd ⟨[u],[]⟩ [("_law_script",u)])/\∀base:Heap,(K w.params).In base->base.Ns mainGlobals mg->cG l.prog w (K w.params) mg base CX0 12 fa fd ["_law_script"] (tX (K w.params))):
  PySem.W.WalkO q loose XP YP l.row.toRowW d [] (λf vs=>PySem.call f vs):=
 L2.walk_ofR (n:=63) (k:=12) (x:="_law_script") (CX:=λ_=>CX0) (sp:=λw=>tX (K w.params)) hn (by decide) hdf ⟨rfl,by decide,by decide⟩ hY F (λ_ _ a ns hl ho hS=>⟨a,ns,rfl,hS,hl,ho,λ_=>rfl⟩) λ_ _ _ _ _ z=>z
end K53
open PySem PySem.W PyProof.Rows L2
set_option maxRecDepth 100000 in
set_option maxHeartbeats 0 in
theorem PySem.Challenge.cw_outweave_k53_rows_in_time_holds : PySem.Challenge.rw_outweave_k53_rows_in_time.Holds := by
 w_on;o_law;k_head;(case hw=>w_witness2)
 k_fill
 refine K53.walk (l:=PySem.Challenge.rw_outweave_k53_rows_in_time) rfl rfl (λw h Y=>PySem.W.kIn_of Y) ?F
 case F =>
  intro w mg fa h X G hmg
  refine' K53.fin X G hmg ?a ?b (λ_ _ _ _ _=>?f) ?z0 ?z1 ?z2 ?z3 ?z4
  (case a|b=>k_is)
  (case z0|z1|z2|z3|z4=>constructor;all_goals k_is)
  (case f=>intro base;constructor;all_goals repeat' first|((with_reducible apply mkD X G)<;>k_is)|((with_reducible refine ClsAt.dm ‹_› X G ?_);apply mkM<;>k_is)|((with_reducible refine ClsAt.kf ‹_› X G ?_);k_is)|((with_reducible refine ClsAt.dc ‹_› X G ?_);apply mkM<;>k_is)|((with_reducible refine ClsAt.dcd ‹_› X G ?_);apply QCv<;>k_is)|((with_reducible apply K53.mkK X G)<;>first|exact⟨_,rfl⟩|k_is)|((with_reducible apply K53.mkT X G)<;>first|exact rfl|k_is|decide +kernel|repeat (first|exact .nil|refine .cons ⟨_,rfl⟩ ?_))|((with_reducible apply PySem.W.mg_none_of X G)<;>k_is)|((with_reducible show lr _=true);first|kernel_rfl|decide +kernel)|constructor)
