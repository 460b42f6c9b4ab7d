import PyProof.Rows.All
import Wide.All
import OpenK.AllK
import Wide.FinOn
import Lean
import PyProof.EqAt
import PyProof.EqKinds
import PyProof.TupleCall
import PySem.Challenge.RW_outweave_k57_whole_no_row_leaks
set_option Elab.async false
set_option linter.all false
set_option maxRecDepth 100000
set_option maxHeartbeats 4000000
local macro_rules|`(tactic|omega)=>`(tactic|first|lia|fail)
set_option genSizeOf false
set_option genInjectivity false in
structure PySem.W.Fast where
 (tw10915707510208231674 tw3710597448488559397 tw128156380647248705 tw8532350008316668942 tw13388037669094890896 tw14563240092651309056 tw2215532857179259442 tw12424120196248965492 tw3920964888512788465 tw18000791512167374816 tw11276121963206441498 tw10481519986244831059 tw9614618760530541351 tw3714655236609010367 tw14143188087596851232 tw3995947111365535367 tw10813916732884442822 tw14923347969729236859 tw14291411132648681579 tw14155432910096511386 tw1977891229338781951 tw15782261165655360114 tw4944169868331687179 tw16399833281306685633 tw17132144283036534544 tw11873336756177730791 tw14707238839649359893 tw8872289547399197029 tw1106594907310682871 tw9894962021772739365 tw3453823694704461185 tw2411991415014402522 tw11014748442904960620 tw12632283592081940728 tw9051526873577204248 tw1377103277556092752 tw12459871052120325502 tw3011597451066563308 tw4435168461041329598 tw11902897645305014060 tw14160027160790107319 tw6820028439912163426 tw15590671601965915465 tw17110175091545769455 tw4882663074402123272 tw15498323177873824997 tw5760129652132809744 tw8506429796792178982 tw2166128117334845427 tw6942351599072688276 tw13127759148287992398 tw12453524713517661983 tw10447687729338097452 tw8546332198207248164 tw8284549185304893328 tw10148563619626134284 tw9074699148151581132 tw17152047012356583342 tw9896426307439061496 tw12951003160227472087 tw16605925854532815365 tw10177793927231721702 tw13408020914889854819 tw17883723392651415805 tw2877358386654333911 tw4797974311578144882 tw17066897595873130775 tw505345113458720913 tw9663174870167747579 tw10195033046806701956 tw15412071141985129172 tw10092650148996778327 tw1962421763722948322 tw6051111424311609209 tw14584502437738949343 tw10948977290000796313 tw13062572110156066809 tw17643270999222623569 tw9748423544333505800 tw12925639191415358783 tw785281666496964196 tw9993657511298971556 tw10897568206378904942 tw12071427777778710597 tw7172234490606589723 tw6845821834883614789 tw9245186691812687227 tw9089069003565364637 tw16802311409731759265 tw13115701891447302819 tw18318320789692374808 tw5700884834087946373 tw4027741355489662731 tw17218216630830563541 tw17699192191181200729 tw5739729903202804680 tw15150327136479735346 tw1836401324974326699 tw17577111693763310034 tw9485220998007812352 tw9989982400209508816 tw16034575438641754675 tw7045595539073702344 tw10858499385046100835 tw9552768821572285530 tw7639829624671461819 tw2651076986118117371 tw9438070140595287699 tw13261662931252795523 tw17361215666381656821 tw9479533316050876880 tw595418089472961408 tw18044285853504069234 tw10075773471455877367 tw14761277537005873342 tw896056519849804432 tw7005280335597471141 tw17636220368181270975 tw13793960910293420529 tw11384621846423995609 tw6559264878894569893 tw3291576086530908631 tw16649669197792830875 tw12591971953596817584 tw7580235808412821120 tw5841344667909886717 tw6864470085356771044 tw17412043104514269306 tw9739885294738386087 tw5541251408097986084 tw9193002670407479362 tw8471586454930001929 tw13139607975251021968 tw12526091937090493269 tw16494227536459493979 tw13214951623210575022 tw10899663400369366218 tw12119098654137522363 tw917821015321706716 tw17233089204909327236 tw3095833439354530647 tw12388399696023036329 tw15238312629879318514 tw2310269152733699510 tw6165837737883569168 tw8524125203524017114 tw17122546496857115934 tw7996316728788925410 tw1306072215825948525 tw815834347580802441 tw6652020298985956169 tw53041420925254425 tw671420920366212884 tw4707971796321351182 tw4824360198564716053 tw7268330009321354128 tw15051609095201475192 tw5998839721195521990 tw1690883315092477383 tw10617215476505108117 tw7956109012785587159 tw16290808858699223678 tw15746583229467214630 tw952787282590110218 tw5940654945511429673 tw12991436137878408487 tw3712713738503563494 tw10900798041143528721 tw13250946617756505768 tw7900139830997823781 tw3355160386958010216 tw2493367928888376821 tw8664011439639863400 tw12020118488292035800 tw18026327651236620426 tw937848646859136565 tw3530830115418812137 tw3017623495926436761 tw5461033190420149668 tw6054757267005743530 tw5411197756248765964 tw14218455173844543630 tw2967287133311648142 tw17909356945676557616 tw5324166101585900055 tw17774953629771746721 tw14362145490951090174 tw6037870159302757155 tw8591053837444258214 tw14112934433102450806 tw18044933077029320132 tw3510976861357537460 tw16637882234880975102 tw14130742158345247934 tw8154210934116911870 tw6275243014989216621 tw17312241895248117114 tw8488552757911796341 tw9723411787681763520 tw16388820343308411118 tw14290463919486805105 tw12397557049013459783 tw17976696897003873032 tw12943753901072265154 tw10211005063774644894 tw10251287453785072532 tw689977349124099346 tw943531737162662008 tw8295447941468480794 tw15145819684096906201 tw10690871347746752353 tw9556050365980642252 tw8575265795210465283 tw15976129338208956621 tw13392537227958248912 tw4896476098432839661 tw8988362365924022555 tw13122813138610462960 tw1461439667069097381 tw1700518745242718296 tw3191863710405971678 tw2246383312727395341 tw10172765557830806005 tw6723125914264238645 tw15044790400845744306 tw13795196464026488548 tw8306470279566503140 tw16889909963190620988 tw8441096687967268928 tw11754669011713410448 tw6847696231858587870 tw17533747632601017671 tw9513879365524603112 tw9424175562456513230 tw6727622447735223541 tw5744630237682415555 tw18331678087891174926 tw16657686656855171134 tw11363571170185199179 tw14065925670317627939 tw2231748541540918927 tw2096686229820576903 tw5952534915352815551 tw5350079282823287831 tw3658069772815780492 tw7342376020663755352 tw5525356058148750531 tw16630008644836027363 tw6460633106088155750 tw185244500810883418 tw5075423099442541364 tw4483898759085477710 tw1892634805678088340 tw16084316835307416035 tw13263627231312996966 tw12141372794800294497 tw12129049533838188529 tw10979617313848951776 tw18123783087057113175 tw2138516761114798970 tw5678457766935331883 tw2145448896002816954 tw1325513418632145342 tw17939296097241702630 tw16831433692809438970 tw15447512353703825237 tw5928200532834189495 tw17529258577522104470 tw16159288936781284001 tw15261497039409597368 tw18299711486776384902 tw3636764504140463222 tw6809700485009495944 tw6966891782277856345 tw5799584907285994998 tw17315482305003314871 tw9025242712525521079 tw9635305417230862955 tw6881100474216770888 tw17724806163992978167 tw2430581710056131036 tw10687978383816210984 tw262314397650326367 tw11229341653526963890 tw9579655083512442150 tw12720012143565818670 tw2969998262269492496 tw7812378105837396313 tw387905508928443867 tw16829629238032741923 tw13245370018002407457 tw9172810888104217567 tw4770071813056054911 tw10483643415324542890 tw16719202712360460392 tw15672690657807664085 tw14845242955059014262 tw13324423993899691478 tw7736834274541317705 tw2718007776131918878 tw16158119676670227824 tw11479629845465745593 tw8148464382970214468 tw10030426809747576707 tw11512080229707345072 tw3234378087807856402 tw14801931696370546146 tw13858830929735399585 tw13840871550584940733 tw7534219941964312960 tw12326212146095459837 tw15267579180907383547 tw16068016126730844258 tw15861453542669673056 tw10377446793303824369 tw10342557100476473624 tw955126334814990853 tw5920195383194198981 tw18098570018873641793 tw13997333606742172032 tw10888519267138609742 tw10930706317211513087 tw18102453460445911821 tw3422234459007415609 tw1658509602841915191 tw10656641840813952497 tw1824481953919984094 tw9227905123022656442 tw9434498513976592660 tw7181957420498909017 tw1532891422105150840 tw5369672972046243557 tw1166230503673959469 tw7086904290820507287 tw3155589357824179334 tw11262201565518612213 tw17639843491657768876 tw11092973324495566625 tw674285041669240934 tw2255469568632090570 tw15880032245629693421 tw13148243763591817104 tw3116489373224827897 tw9997709369706637160 tw17188635817956270546 tw6171588442713570969 tw6047672727279075001 tw8782330932503688811 tw8774427174565852783 tw6985336621206542601 tw5789030915392992655 tw10366215773005954402 tw7452252620374699925 tw17740077563758619722 tw1682496848635695404 tw9972116385570516306 tw6651123101836686135 tw2140396995036346199 tw13767986165692071861 tw12667453177784764157 tw13917697570638996095 tw12522082858799726783 tw8337508827705432933 tw7511766195624935590 tw6063662313596634911 tw5869335760736042035 tw13756386632260094492 tw17291264828145257910 tw1580101458788332935 tw16177848549464050366 tw10178187283114816133 tw13061363451839282482 tw6533211595439689457 tw6054908924380733037 tw3144454045016260914 tw16528638034981872657 tw11885891174745626458 tw6573835640252473982 tw5759705382368302143 tw1663923053873422690 tw1610476838875665774 tw2912905614449974134 tw5938686263771076084 tw9412785879584392207 tw3041655180308497684 tw6259102379105708555 tw11613482619559470126 tw2804235325088649268 tw15721539011820806901 tw8133787884984212590 tw12386598189137463301 tw12850123395685303743 tw16457824341195880892 tw7643266528084652278 tw1286125672364450602 tw8167840016838398445 tw5265789019341945998 tw17535759551661549255 tw7101970650509359221 tw2618084996507066194 tw3988944289483255181 tw15331145486468341097 tw9694664151123440553 tw12363876348862731684 tw14210874475458527760 tw1639637346610136903 tw1425153758595711569 tw17291295333056170472 tw14011715709843865667 tw10672476170720067081 tw18373521266709944458 tw9295475149622479677 tw9151747451176589621 tw16719233112842860914 tw13154162801310057417 tw8363086569589148300 tw8210887958784911142 tw15326018512874816656 tw13099799622443188770 tw113598554773175162 tw10706375566728042651 tw12196402601119349797 tw17096135259144319132 tw8914471603059041651 tw6576931682243702963 tw2271322693303827611 tw15818659124848168449 tw15997388338327675440 tw12021472536303459916 tw11823574301504472391 tw18023182622950317836 tw4516005472417436158 tw17400498398263530682 tw15089979169771094504 tw14979987088460010305 tw13239687489488701187 tw12143979248652581985 tw1101030507966396844 tw6536238966601795181 tw18034429887201134396 tw702552755903662374 tw17419171187329230480 tw11497840853239371807 tw6106565608997396133 tw3741880968865265889 tw13677584820990478283 tw12458967319416422118 tw10954536390788269982 tw10687929969268432274 tw2219866100714324366 tw17466830154008342112 tw16654429630357976765 tw15898486195788864735 tw15854058391938256775 tw13843415439158269147:Unit)
noncomputable section
section
open PySem PyProof.Rows
abbrev za:=@wpAny_bind
abbrev zb:=@wpAny_pure
abbrev zc:=@Nat.le_refl
abbrev zd:=@List.mem_cons_self
abbrev ze:=@List.length_append
abbrev zf:=@List.length_map
abbrev zg:=@List.map_cons
abbrev zh:=@List.mem_singleton
abbrev zj:=@List.getElem?_set_ne
abbrev zk:=@List.mem_cons
abbrev zl:=@Heap.lt_size
abbrev zm:=@List.mem_cons_of_mem
abbrev zo:=@Heap.get?_push_of_some
abbrev zp:=@Nat.ne_of_lt
abbrev zq:=@decide_eq_false
abbrev zt:=@List.getElem?_eq_getElem
abbrev zu:=@List.getElem?_eq_some_iff
abbrev zv:=@decide_eq_true
abbrev zw:=@List.length_cons
abbrev zx:=@List.mem_append
abbrev zy:=@Heap.get?_push_size
abbrev zz:=@List.mem_map
abbrev zA:=@Bool.false_ne_true
abbrev zB:=@List.append_assoc
abbrev zC:=@List.getElem?_map
abbrev zD:=@Bool.and_eq_true
abbrev zE:=@Option.some.inj
abbrev zF:=@List.getElem?_append_left
abbrev zG:=@List.append_nil
abbrev zH:=@List.mem_append_right
abbrev zI:=@List.size_toArray
abbrev zJ:=@List.mem_of_getElem?
abbrev zK:=@Nat.lt_of_lt_of_le
abbrev zL:=@List.getElem?_append_right
abbrev zM:=@List.map_append
abbrev zN:=@Nat.le_trans
abbrev zO:=@List.map_map
abbrev zP:=@of_decide_eq_true
abbrev zQ:=@List.getElem?_set_self
abbrev zR:=@List.length_singleton
abbrev zS:=@wpAny_holding
abbrev zT:=@wpAny_mono
abbrev zU:=@List.nil_append
abbrev zV:=@Nat.lt_irrefl
abbrev zW:=@wpAny_rule
abbrev zX:=@List.map_nil
abbrev zY:=@List.map_congr_left
abbrev zZ:=@List.mem_append_left
abbrev ja:=@List.getElem_mem
abbrev jb:=@List.length_set
abbrev jc:=@codeAny_builtin
abbrev jd:=@Nat.lt_succ_self
abbrev je:=@List.length_nil
abbrev jf:=@List.getD_eq_getElem?_getD
abbrev jg:=@List.nodup_append
abbrev jh:=@Heap.get?_update_other
abbrev jj:=@List.all_eq_true
abbrev jk:=@Nat.lt_succ_of_lt
abbrev jm:=@wpAny_updateSeq
abbrev jo:=@Nat.zero_add
abbrev jp:=@List.getElem?_cons_zero
abbrev jq:=@List.getElem?_eq_none
abbrev jr:=@List.getElem?_cons_succ
abbrev js:=@Int.emod_nonneg
abbrev jt:=@Option.map_eq_some_iff
abbrev ju:=@Int.emod_lt_of_pos
abbrev jv:=@Classical.not_not
end
namespace L2
open PySem PySem.Spec PyProof.Rows
abbrev Key:=Sum Int Str
def m7:Key->Value->Bool
 | .inl k,v=>Value.isInt k v
 | .inr x,v=>Value.isStrOf x v
def Ou(w:World):Key->Int
 | .inl k=>hashInt k
 | .inr x=>hashStr w x
theorem iU:∀{k:Key}{v:Value},m7 k v=true->(∃i t,k=Sum.inl i/\v=Value.int i t)\/(∃x t,k=Sum.inr x/\v=Value.str x t)
 | .inl i,v,h=>by
  obtain⟨t,e⟩:=Value.isInt_shape h;exact .inl ⟨i,t,rfl,e⟩
 | .inr x,v,h=>by
  obtain⟨t,e⟩:=Value.isStrOf_shape h;exact .inr ⟨x,t,rfl,e⟩
def Ov(i:Int)(t:Tok):m7 (.inl i) (.int i t)=true:=by simp[m7,Value.isInt]
def Ox(x:Str)(t:Tok):m7 (.inr x) (.str x t)=true:=by simp[m7,Value.isStrOf]
def Oz(a b:Int):decide ((Sum.inl a:Key)=Sum.inl b)=(a == b):=by
 by_cases e:a=b
 ·subst e;simp
 ·have h:¬(Sum.inl a:Key)=Sum.inl b:=λq=>e (Sum.inl.inj q)
  rw[zq h];exact(beq_eq_false_iff_ne.mpr e).symm
def OD(a b:Str):decide ((Sum.inr a:Key)=Sum.inr b)=decide (a=b):=by
 by_cases e:a=b
 ·simp
 ·have h:¬(Sum.inr a:Key)=Sum.inr b:=λq=>e (Sum.inr.inj q)
  rw[zq h,zq e]
def OJ(a:Int)(b:Str):decide ((Sum.inl a:Key)=Sum.inr b)=false:=zq λq=>nomatch q
def O7(a:Str)(b:Int):decide ((Sum.inr a:Key)=Sum.inl b)=false:=zq λq=>nomatch q
def cJ(prog:Program)(w:World):PySem.KeyKind prog w Key where
 is:=m7
 hash:=Ou w
 inj:=λv a b ha hb=>by
  rcases iU ha with⟨i,t,rfl,rfl⟩ | ⟨x,t,rfl,rfl⟩
  ·rcases iU hb with⟨j,u,rfl,e⟩ | ⟨y,u,rfl,e⟩
   ·injection e with e1 _;rw[e1]
   ·exact nomatch e
  ·rcases iU hb with⟨j,u,rfl,e⟩ | ⟨y,u,rfl,e⟩
   ·exact nomatch e
   ·injection e with e1 _;rw[e1]
 byValue:=λk v h=>by
  rcases iU h with⟨i,t,rfl,rfl⟩ | ⟨x,t,rfl,rfl⟩<;>rfl
 pyHash:=λhv h=>by
  rcases iU hv with⟨i,t,rfl,rfl⟩ | ⟨x,t,rfl,rfl⟩
  ·exact wpAny_pyHash_int h
  ·exact wpAny_pyHash_str h
 eqBool:=λhu hv h=>by
  rcases iU hu with⟨i,t,rfl,rfl⟩ | ⟨x,t,rfl,rfl⟩
  ·rcases iU hv with⟨j,u,rfl,rfl⟩ | ⟨y,u,rfl,rfl⟩
   ·rw[Oz] at h;exact wpAny_eqBool_int h
   ·rw[OJ] at h;exact SeqAt.EqAt.int_str i t y u _ _ _ _ h
  ·rcases iU hv with⟨j,u,rfl,rfl⟩ | ⟨y,u,rfl,rfl⟩
   ·rw[O7] at h;exact SeqAt.EqAt.str_int x t j u _ _ _ _ h
   ·rw[OD] at h;exact wpAny_eqBool_str h
 «strs»:=λk x t v h=>by
  rcases iU h with⟨i,u,rfl,e⟩ | ⟨y,u,rfl,e⟩
  ·exact nomatch e
  ·injection e with e1 _
   subst e1
   cases v<;>rfl
def O8(prog:Program)(w:World)(i:Int)(t:Tok):(cJ prog w).is (.inl i) (.int i t)=true:=Ov i t
def O9(prog:Program)(w:World)(x:Str)(t:Tok):(cJ prog w).is (.inr x) (.str x t)=true:=Ox x t
inductive V where
 | non | bl (b:Bool) | int (i:Int) | str (x:Str) | byt (b:Array UInt8) | flt (b:UInt64) | ref (a:Addr) | ty (n:String)
 deriving DecidableEq
def RelV:V->Value->Prop
 | .non,u=>u=Value.none
 | .bl b,u=>u=Value.bool b
 | .int i,u=>∃t,u=Value.int i t
 | .str x,u=>∃t,u=Value.str x t
 | .byt b,u=>∃t,u=Value.bytes b t
 | .flt b,u=>∃t,u=Value.float b t
 | .ref a,u=>u=Value.ref a
 | .ty n,u=>u=Value.type n
abbrev aF:List V->List Value->Prop:=Paired RelV
def aF.length   (r:aF xs us):xs.length=us.length:=Paired.length r
theorem aF.get:∀{xs:List V}{us:List Value}{i:Nat}{x:V},aF xs us->xs[i]?=some x->∃u,us[i]?=some u/\RelV x u
 | _,_,_,_,.nil,e=>by simp at e
 | _,_,0,_,.cons r _,e=>by simp at e;subst e;exact⟨_,rfl,r⟩
 | _,_,i+1,x,.cons _ t,e=>by
  obtain⟨u,h1,h2⟩:=aF.get (i:=i) (x:=x) t (by simpa using e);exact⟨u,by simpa using h1,h2⟩
theorem aF.set   (r:RelV x u):∀{xs:List V}{us:List Value} (i:Nat),aF xs us->aF (xs.set i x) (us.set i u)
 | _,_,_,.nil=>.nil
 | _,_,0,.cons _ t=>.cons r t
 | _,_,i+1,.cons q t=>.cons q (aF.set r i t)
theorem aF.append:∀{xs ys:List V}{us d:List Value},aF xs us->aF ys d->aF (xs++ys) (us++d)
 | _,_,_,_,.nil,s=>s
 | _,_,_,_,.cons r t,s=>.cons r (aF.append t s)
theorem aF.take:∀{xs:List V}{us:List Value} (n:Nat),aF xs us->aF (xs.take n) (us.take n)
 | _,_,0,_=>.nil
 | _,_,_+1,.nil=>.nil
 | _,_,n+1,.cons r t=>.cons r (aF.take n t)
theorem aF.drop:∀{xs:List V}{us:List Value} (n:Nat),aF xs us->aF (xs.drop n) (us.drop n)
 | _,_,0,r=>r
 | _,_,_+1,.nil=>.nil
 | _,_,n+1,.cons _ t=>aF.drop n t
def dq:Option V->Option Value->Prop
 |some v,some u=>RelV v u
 |none,none=>True
 | _,_=>False
def KV :List (κ×V)->List (κ×Value)->Prop:=Paired λ(p:κ×V) (q:κ×Value)=>p.1=q.1/\RelV p.2 q.2
def kV:Key->V
 | .inl i=>.int i
 | .inr x=>.str x
section
variable {prog:Program}{w:World}{K:Type}[DecidableEq K](knd:KeyKind prog w K)(ik:Int->K)
def dX(h:Heap)(k:Int×List K)(a:Addr):Prop:=∃o items n u c,h.get? a=some o/\o.cls=.type "tuple"/\o.data=.seq items n/\items.toList=[u,.ref c]/\knd.is (ik k.1) u=true/\IsTupleKey knd h k.2 c
variable {knd ik}
def dX.typeIs{s:Shared}{k:Int×List K}{a:Addr}(x:dX knd ik s.heap k a):s.TypeIs (.ref a) "tuple":=let ⟨o,_,_,_,_,ho,hc,_⟩:=x;⟨o,ho,hc⟩
def dX.inj(G:∀i j,ik i=ik j->i=j){h:Heap}{a:Addr}{x y:Int×List K}(hx:dX knd ik h x a)(O:dX knd ik h y a):x=y:=by
 obtain⟨o,items,n,u,c,Q,_,hd,T,P,R⟩:=hx;obtain⟨L,t,X,W,Y,E,_,m,f,C,F⟩:=O;obtain rfl:o=L:=zE (Q.symm.trans E);rw[hd] at m
 injection m with h1 _
 subst h1;rw[T] at f
 injection f with U d
 injection d with d _
 injection d with d
 subst U d;have J:=G _ _ (knd.inj _ _ _ P C);have I:=R.inj F;exact Prod.ext J I
def dX.keeps{h h':Heap}{k:Int×List K}{a d:Addr}{o:Obj}{es ep}(x:dX knd ik h k a)(y:h.get? d=some o)(hd:o.data=.dict es ep)(hs:Heap.SameBut d h h'):dX knd ik h' k a:=by
 obtain⟨t,items,n,u,c,j,G,f,F,C,E⟩:=x
 have m:a≠d:=by
  rintro rfl;obtain rfl:t=o:=zE (j.symm.trans y);rw[hd] at f;exact nomatch f
 exact⟨t,items,n,u,c,(hs.2 a m).trans j,G,f,F,C,E.keeps y hd hs⟩
variable {A:Around}{E:Value->Shared->Prop}{s:Shared}
def vO(knd:KeyKind prog w K)(ik:Int->K)(k:Int×List K):Int:=reduceHash (Builtin.Tuple.tupleHashOf [knd.hash (ik k.1),tupleKeyHash knd k.2])
def Pa{k:Int×List K}{a:Addr}{Q:Int->Shared->Prop}(f:A.units+1<cLine)(G:dX knd ik s.heap k a)(h:Q (vO knd ik k) {s with toks:=s.toks+(k.2.length+3)}):
  wpAny (model prog w) A (pyHash (.ref a)) Q E s:=by
 have j:=G.typeIs;have I:A.units<cLine:=Nat.lt_of_le_of_lt (Nat.le_add_right _ 1) f;obtain⟨o,items,n,u,c,J,_,hd,L,y,C⟩:=G;unfold pyHash
 first | unfold pyHashByItsType | skip
 first | refine za (wpAny_cRoomFor_or (.inr I) ?_) | skip
 refine za (wpAny_specialOf j F.slot_tuple_hash.lookup ?_);show wpAny _ _ (if(some (Value.builtin "tuple.__hash__") == some Value.none)=true then _ else _) Q E s;rw[if_neg (by rw[beq_builtin_none];exact zA)];refine za (wpAny_specialOf j F.slot_tuple_hash.lookup ?_);show wpAny _ _ (callSpecialIfBoundUnlessNone? (.ref a) "__hash__" _ >>= _) Q E s;refine za (wpAny_callSpecialIfBoundUnlessNone?_slot j F.slot_tuple_hash (wpAny_call_entry F.slot_tuple_hash j F.entry_tuple_hash ?_ (F.args_tuple_hash_1 _)));show wpAny _ _ (Builtin.Tuple.tupleItemsOf (.ref a) >>= _) _ _ s;refine za (wpAny_tupleItemsOf J hd ?_)
 refine za ?_;rw[<-Array.forIn_toList,L];refine wpAny_forIn_list _
  (λrest (b:Array Int) s'=>(rest=[u,.ref c]/\b.toList=[]/\s'=s)\/(rest=[.ref c]/\b.toList=[knd.hash (ik k.1)]/\s' = {s with toks:=s.toks+1})\/(rest=[]/\b.toList=[knd.hash (ik k.1),tupleKeyHash knd k.2]/\s' = {s with toks:=s.toks+(k.2.length+2)}))
  _ ?_ ?_ _ _ (.inl ⟨rfl,rfl,rfl⟩)
 ·rintro x rest b s' (⟨d,hb,rfl⟩ | ⟨d,hb,rfl⟩ | ⟨d,hb,rfl⟩)
  ·injection d with t m
   subst t m;refine za (knd.pyHash y ?_)
   first
    | exact zb (.inr (.inl ⟨rfl,by simp[hb],rfl⟩))
    | exact za (zb (zb (.inr (.inl ⟨rfl,by simp[hb],rfl⟩))))
  ·injection d with t m
   subst t m;refine za (wpAny_pyHash_tuple (tupleKind_room_in1 (knd:=knd) f) (s:={s with toks:=s.toks+1}) C ?_)
   first
    | exact zb (.inr (.inr ⟨rfl,by simp[hb],by simp[Nat.add_assoc,Nat.add_comm];omega⟩))
    | exact za (zb (zb (.inr (.inr ⟨rfl,by simp[hb],by simp[Nat.add_assoc,Nat.add_comm];omega⟩))))
  ·cases d
 ·rintro b s' (⟨d,hb,rfl⟩ | ⟨d,hb,rfl⟩ | ⟨d,hb,rfl⟩)
  ·cases d
  ·cases d
  ·show wpAny _ _ (retInt (Builtin.Tuple.tupleHashOf b.toList)) _ _ _;rw[hb];refine wpAny_ret_mkInt ?_;show wpAny _ _ (if(decide (-(2:Int) ^ 63<=Builtin.Tuple.tupleHashOf [knd.hash (ik k.1),tupleKeyHash knd k.2])&&decide (Builtin.Tuple.tupleHashOf [knd.hash (ik k.1),tupleKeyHash knd k.2]<2 ^ 63))=true then _ else _) Q E _;unfold vO reduceHash at h
   by_cases d:(decide (-(2:Int) ^ 63<=Builtin.Tuple.tupleHashOf [knd.hash (ik k.1),tupleKeyHash knd k.2])&&decide (Builtin.Tuple.tupleHashOf [knd.hash (ik k.1),tupleKeyHash knd k.2]<2 ^ 63))=true
   ·rw[if_pos d];rw[if_pos d] at h;exact zb (by simpa [Nat.add_assoc] using h)
   ·rw[if_neg d];rw[if_neg d] at h;exact za (zW (zb (by simpa [Nat.add_assoc] using h)))
def Pb(Y:∀i j,ik i=ik j->i=j)(hu:A.units+2<cLine){x y:Int×List K}{a b:Addr}{P:Fin->Shared->Prop}(hx:dX knd ik s.heap x a)(hy:dX knd ik s.heap y b)(h:P (.done (.ret (.bool (decide (x=y))))) s):
  wpAny (model prog w) A (Builtin.«tuple.__eq__» ⟨[.ref a,.ref b],[]⟩) P E s:=by
 have hTb:=hy.typeIs;obtain⟨oa,I,na,ua,ca,X,_,hda,C,ha1,ha2⟩:=hx;obtain⟨ob,G,nb,ub,cb,W,_,Z,t,hb1,hb2⟩:=hy
 have U:(I.size == G.size)=true:=by
  have h1:I.toList.length=2:=by rw[C];rfl
  have h2:G.toList.length=2:=by rw[t];rfl
  rw[Array.length_toList] at h1 h2;rw[h1,h2];rfl
 show wpAny _ _ (isInstance (.ref b) (.type "tuple") >>= _) _ _ s;refine za (wpAny_isInstance hTb isSubtype_tuple_tuple ?_);simp only[Bool.not_true,Bool.false_eq_true,if_false];refine za (wpAny_tupleItemsOf X hda ?_);refine za (wpAny_tupleItemsOf W Z ?_);refine za ?_;rw[C,t];refine wpAny_forIn_list _
  (λrest r J=>r.1=none/\J=s/\(rest=[(ua,ub),(.ref ca,.ref cb)]\/(rest=[(.ref ca,.ref cb)]/\x.1=y.1)\/(rest=[]/\x.1=y.1/\x.2=y.2)))
  _ ?_ ?_ _ _ ⟨rfl,rfl,.inl rfl⟩
 ·rintro⟨u,v⟩ rest r J ⟨R,rfl,(d | ⟨d,L⟩ | ⟨d,_⟩)⟩
  ·injection d with m Q
   injection m with m O
   subst m Q O;refine za (knd.eqBool (a:=ik x.1) (b:=ik y.1) ha1 hb1 ?_)
   by_cases f:x.1=y.1
   ·rw[zv (by rw[f])];simp only[Bool.not_true,Bool.false_eq_true,if_false];exact zb ⟨by simp,by simp,.inr (.inl ⟨by simp,f⟩)⟩
   ·rw[zq (λz=>f (Y _ _ z))];simp only[Bool.not_false,if_true]
    have T:decide (x=y)=false:=zq λz=>f (by rw[z])
    rw[T] at h;exact za (zb (zb (zb h)))
  ·injection d with m Q
   injection m with m O
   subst m Q O;refine za (wpAny_eqBool_tuple (by omega) ha2 hb2 ?_)
   by_cases f:x.2=y.2
   ·rw[zv f];simp only[Bool.not_true,Bool.false_eq_true,if_false];exact zb ⟨by simp,by simp,.inr (.inr ⟨by simp,L,f⟩)⟩
   ·rw[zq f];simp only[Bool.not_false,if_true]
    have T:decide (x=y)=false:=zq λz=>f (by rw[z])
    rw[T] at h;exact za (zb (zb (zb h)))
  ·cases d
 ·rintro⟨r1,r2⟩ J ⟨R,rfl,(d | ⟨d,L⟩ | ⟨d,L,e2⟩)⟩
  ·cases d
  ·cases d
  ·simp only at R;subst R;refine zb ?_
   have F:(I.size == G.size)=decide (x=y):=by rw[U,zv (Prod.ext L e2)]
   show P (.done (.ret (.bool (I.size == G.size)))) J;rw[F];exact h
def Pg(f:∀i j,ik i=ik j->i=j){x y:Int×List K}{a b:Addr}{Q:Bool->Shared->Prop}(G:A.units+4<cLine)(hx:dX knd ik s.heap x a)(m:dX knd ik s.heap y b)(h:Q (decide (x=y)) s):
  wpAny (model prog w) A (eqBool (.ref a) (.ref b)) Q E s:=by
 have C:A.units<cLine:=by omega
 have u:A.in1.units+2<cLine:=by
  show A.units+1+2<cLine;omega
 have t:A.units+2<cLine:=by omega
 unfold eqBool
 try with_reducible refine zS ?_
 show wpAny _ _ (if(Value.ref a == Value.ref b)=true then _ else _) Q E s
 by_cases d:(Value.ref a == Value.ref b)=true
 ·rw[if_pos d]
  have e:a=b:=by have:=eq_of_beq d;injection this
  subst e;obtain rfl:=hx.inj f m;exact za (zW (zb (by simpa using h)))
 ·rw[if_neg d]
  exact za (wpAny_richCompare_same_room (op:=.Eq) hx.typeIs m.typeIs F.slot_tuple_eq
   (wpAny_call_entry F.slot_tuple_eq hx.typeIs F.entry_tuple_eq (Pb f (by first | exact u | exact t) hx m ⟨_,rfl,(λe=>nomatch e),wpAny_truthy_bool h⟩) (F.args_tuple_eq_2 _ _)) C)
def Ph{m:Nat}{ks:List K}{a:Addr}{Q:Bool->Shared->Prop}(t:IsTupleKey knd s.heap ks a)(h:Q true s):wpAny (model prog w) A (eqIsQuiet (m+1) (.ref a)) Q E s:=by
 have x:=t.typeIs;obtain⟨o,items,n,y,_,hd,C⟩:=t;unfold eqIsQuiet;refine za (wpAny_specialOf x F.slot_tuple_eq.lookup ?_);show wpAny _ _ (isInstance (.ref a) (.type "tuple") >>= _) _ _ s;refine za (wpAny_isInstance x isSubtype_tuple_tuple ?_);simp only[Bool.not_true,Bool.false_eq_true,if_false];refine za (wpAny_seqItems y hd ?_);refine za ?_;show wpAny _ _ (forIn items _ _) _ _ s;rw[<-Array.forIn_toList];refine wpAny_forIn_list _ (λrest r d=>r.1=none/\d=s/\∀v∈rest,carriedByValue v=true) _ ?_ ?_ _ _ ⟨rfl,rfl,C.byValue⟩
 ·rintro v rest r d ⟨f,rfl,hall⟩;rw[eqIsQuiet_byValue _ (hall v zd)];refine za (zb ?_);simp only[Bool.not_true,Bool.false_eq_true,if_false];exact zb ⟨rfl,rfl,λu j=>hall u (zm _ j)⟩
 ·rintro⟨I,G⟩ d ⟨f,rfl,_⟩;simp only at f;subst f;exact zb h
def Pj{k:Int×List K}{a:Addr}{Q:Bool->Shared->Prop}(x:dX knd ik s.heap k a)(h:Q true s):wpAny (model prog w) A (eqIsQuiet 8 (.ref a)) Q E s:=by
 have y:=x.typeIs;obtain⟨o,items,n,u,c,G,_,hd,I,m,t⟩:=x;unfold eqIsQuiet;refine za (wpAny_specialOf y F.slot_tuple_eq.lookup ?_);show wpAny _ _ (isInstance (.ref a) (.type "tuple") >>= _) _ _ s;refine za (wpAny_isInstance y isSubtype_tuple_tuple ?_);simp only[Bool.not_true,Bool.false_eq_true,if_false];refine za (wpAny_seqItems G hd ?_);refine za ?_;show wpAny _ _ (forIn items _ _) _ _ s;rw[<-Array.forIn_toList,I];refine wpAny_forIn_list _ (λrest r f=>r.1=none/\f=s/\∀v∈rest,v=u\/v=.ref c) _ ?_ ?_ _ _ ⟨rfl,rfl,λv C=>by simpa using C⟩
 ·rintro v rest r f ⟨j,rfl,hall⟩
  rcases hall v zd with e | e
  ·rw[e,eqIsQuiet_byValue _ (knd.byValue _ _ m)];refine za (zb ?_);simp only[Bool.not_true,Bool.false_eq_true,if_false];exact zb ⟨rfl,rfl,λu d=>hall u (zm _ d)⟩
  ·rw[e];refine za (Ph t ?_);simp only[Bool.not_true,Bool.false_eq_true,if_false];exact zb ⟨rfl,rfl,λu d=>hall u (zm _ d)⟩
 ·rintro⟨L,J⟩ f ⟨j,rfl,_⟩;simp only at j;subst j;exact zb h
end
abbrev NK:=Int×List Key
def m8(prog:Program)(w:World):HeapKind prog w NK where
 is:=dX (cJ prog w) Sum.inl
 hash:=vO (cJ prog w) Sum.inl
 draws:=λk=>k.2.length+3
 room:=λA=>A.units+4<cLine
 inj:=λhx hy=>hx.inj (λ_ _ e=>Sum.inl.inj e) hy
 keeps:=λx ho hd hs=>x.keeps ho hd hs
 pyHash:=λhu hk h=>Pa (by omega) hk h
 eqBool:=λhu hx hy h=>Pg (λ_ _ e=>Sum.inl.inj e) hu hx hy h
 quiet:=λhk h=>Pj hk h
inductive HO where
 | lst (xs:List V)
 | tup (xs:List V)
 | dK (kvs:List (Key×V)) | dT (kvs:List (List Key×V))
 | dN (K:List (Addr×Obj)) (kvs:List (NK×V))
 | set (S:Int->Bool) (n:Nat)
 | ins (C dx:Addr) (fs:List (Str×V))
 | own (x:Addr)
 | xd (fs:List (Str×V))
 | met (f x:Addr)
 | rng (lo hi:Int)
 | frz (o:Obj) (u:HO)
 | tbl (ps:Array Value)
 | ext (φ:Heap->Prop)
abbrev Hp:=Addr->Option HO
noncomputable def upd(H:Hp)(a:Addr)(o:HO):Hp:=λb=>if b=a then some o else H b
def bx   :upd H a o a=some o:=by unfold upd;rw[if_pos rfl]
def aD    (h:b≠a):upd H a o b=H b:=by unfold upd;rw[if_neg h]
def ne_of{H:Hp}   (h:H a=some o)(h':H b=some u)(d:o≠u):a≠b:=by
 intro e;subst e;rw[h] at h';exact d (zE h')
def bT{H:Hp}   (h:H a=some o)(h':H b=none):a≠b:=by
 intro e;subst e;rw[h] at h';cases h'
def NAt(K:List (Addr×Obj))(H:Hp)(k:NK)(b:Addr):Prop:=∃c,H b=some (.tup [.int k.1,.ref c]) /\
 (H c=some (.tup (k.2.map kV))\/∃(o:Obj) (d:Array Value) (n:Nat),K.lookup c=some o/\o.cls=.type "tuple"/\o.data=.seq d n/\d.size<=sizeLine/\aF (k.2.map kV) d.toList)
def NAt.mono{K:List (Addr×Obj)}    (x:NAt K H k b)(d:∀b xs,H b=some (.tup xs)->f b=some (.tup xs)):NAt K f k b:=by
 obtain⟨c,h1,h2⟩:=x;exact⟨c,d _ _ h1,h2.imp (d _ _) id⟩
section
variable (P:Program)(w:World)
def bU(H:Hp)(h:Heap)(a:Addr):HO->Prop
 | .lst d=>d.length<=sizeLine/\∃(j:List Value) (n:Nat),aF d j/\h.get? a=some {cls:=.type "list",data:=.seq j.toArray n}
 | .tup d=>d.length<=sizeLine/\∃j:List Value,aF d j/\IsTup h a j.toArray
 | .dK kvs=>kvs.length<=sizeLine/\(a == sysModules)=false/\∃F,KV kvs F/\h.DictOf (cJ P w) a F
 | .dT kvs=>kvs.length<=sizeLine/\(a == sysModules)=false/\∃d:List (List Key×Addr×Value),
   Paired (λ(p:List Key×V) (q:List Key×Addr×Value)=>p.1=q.1/\H q.2.1=some (.tup (p.1.map kV))/\RelV p.2 q.2.2) kvs d /\
   ∃o y E,h.get? a=some o/\o.ExactDict/\o.data=.dict y E/\y.toList=d.map (entryOfKey (tupleKind (cJ P w)))/\(d.map (·.1)).Nodup
 | .dN K kvs=>kvs.length<=sizeLine/\(a == sysModules)=false/\∃d:List (NK×Addr×Value),
   Paired (λ(p:NK×V) (q:NK×Addr×Value)=>p.1=q.1/\NAt K H p.1 q.2.1/\RelV p.2 q.2.2) kvs d /\
   ∃o y E,h.get? a=some o/\o.ExactDict/\o.data=.dict y E/\y.toList=d.map (entryOfKey (m8 P w))/\(d.map (·.1)).Nodup
 | .set S n=>h.SetOf (intKind P w) a S n
 | .ins C dx fs=>H dx=some (.own a)/\fs.length<=1000/\dx≠a/\h.get? a=some (PySem.W.instObj C dx) /\
   ∃m,h.Ns1 dx m/\(∀f,dq (fs.lookup f) (m f))/\PySem.Within m (fs.map (·.1))
 | .own _=>∃o,h.get? a=some o
 | .xd fs=>∃m,h.Ns1 a m/\∀f,dq (fs.lookup f) (m f)
 | .rng lo hi=>∃t u v,h.get? a=some {cls:=.type "range",data:=.fields #[.int lo t,.int hi u,.int 1 v]}
 | .frz o u=>h.get? a=some o/\bU H h a u
 | .tbl ps=>h.get? a=some {cls:=.none,data:=.fields ps}
 | .met f x=>h.get? a=some (PySem.W.methodObj (.ref f) (.ref x))
 | .ext φ=>φ h/\(∃o,h.get? a=some o)/\∀h1 h2:Heap,φ h1->(∀o,h1.get? a=some o->h2.get? a=some o)->φ h2
def HOk(H:Hp)(h:Heap):Prop:=∀a o,H a=some o->bU P w H h a o
end
def bU.lt(x:bU P w H h a o):a<h.objs.size:=by
 cases o with
 |lst j=>obtain⟨_,_,_,_,e⟩:=x;exact zl e
 |tup j=>obtain⟨_,_,_,p⟩:=x;exact p.lt
 |dK d=>obtain⟨_,_,_,_,o,_,_,e,_⟩:=x;exact zl e
 |dT d=>obtain⟨_,_,_,_,o,_,_,e,_⟩:=x;exact zl e
 |dN K d=>obtain⟨_,_,_,_,o,_,_,e,_⟩:=x;exact zl e
 |set S n=>obtain⟨o,_,_,_,e,_⟩:=x;exact zl e
 |ins C E fs=>obtain⟨_,_,_,e,_⟩:=x;exact zl e
 |own y=>obtain⟨_,e⟩:=x;exact zl e
 |xd fs=>obtain⟨_,⟨_,_,_,e,_⟩,_⟩:=x;exact zl e
 |rng lo t=>obtain⟨_,_,_,e⟩:=x;exact zl e
 |frz ob u=>obtain⟨e,_⟩:=x;exact zl e
 |tbl m=>exact zl (show h.get? a=some _ from x)
 |met f y=>exact zl (show h.get? a=some _ from x)
 |ext φ=>obtain⟨_,⟨_,e⟩,_⟩:=x;exact zl e
theorem Paired.mapP  :∀{j:List α}{d:List β},Paired F j d->(∀a b,F a b->G a b)->Paired G j d
 | _,_,.nil,_=>.nil
 | _,_,.cons r t,f=>.cons (f _ _ r) (Paired.mapP t f)
def bU.stay(x:bU P w H h a o)(k:∀b u,(b=a\/H b=some (.own a))->h.get? b=some u->h'.get? b=some u)
  (Q:∀b,H b=some (.own a)->H' b=some (.own a)) (J:∀b xs,H b=some (.tup xs)->H' b=some (.tup xs)):bU P w H' h' a o:=by
 induction o with
 |lst xs=>obtain⟨z,E,n,r,e⟩:=x;exact⟨z,E,n,r,k _ _ (.inl rfl) e⟩
 |tup xs=>obtain⟨z,E,r,ob,e,c⟩:=x;exact⟨z,E,r,ob,k _ _ (.inl rfl) e,c⟩
 |dK F=>obtain⟨z,y,L,r,ob,j,m,e,c⟩:=x;exact⟨z,y,L,r,ob,j,m,k _ _ (.inl rfl) e,c⟩
 |dT F =>
  obtain⟨z,y,xs,r,ob,j,m,e,c⟩:=x;exact⟨z,y,xs,Paired.mapP r λp q z=>⟨z.1,J _ _ z.2.1,z.2.2⟩,ob,j,m,k _ _ (.inl rfl) e,c⟩
 |dN K F =>
  obtain⟨z,y,xs,r,ob,j,m,e,c⟩:=x;exact⟨z,y,xs,Paired.mapP r λp q z=>⟨z.1,z.2.1.mono J,z.2.2⟩,ob,j,m,k _ _ (.inl rfl) e,c⟩
 |set S n=>obtain⟨ob,j,m,t,e,c⟩:=x;exact⟨ob,j,m,t,k _ _ (.inl rfl) e,c⟩
 |ins C dx fs =>
  obtain⟨d,z,ne,e,I,⟨G,j,m,R,c⟩,r⟩:=x;exact⟨Q _ d,z,ne,k _ _ (.inl rfl) e,I,⟨G,j,m,k _ _ (.inr d) R,c⟩,r⟩
 |own y=>obtain⟨ob,e⟩:=x;exact⟨ob,k _ _ (.inl rfl) e⟩
 |xd fs=>obtain⟨I,⟨G,j,m,e,c⟩,r⟩:=x;exact⟨I,⟨G,j,m,k _ _ (.inl rfl) e,c⟩,r⟩
 |rng lo T=>obtain⟨t,u,v,e⟩:=x;exact⟨t,u,v,k _ _ (.inl rfl) e⟩
 |frz ob u O=>obtain⟨e,q⟩:=x;exact⟨k _ _ (.inl rfl) e,O q⟩
 |tbl ps =>
  have e:h.get? a=some {cls:=.none,data:=.fields ps}:=x;show h'.get? a=some {cls:=.none,data:=.fields ps};exact k a _ (.inl rfl) e
 |met f y =>
  have e:h.get? a=some (PySem.W.methodObj (.ref f) (.ref y)):=x;show h'.get? a=some (PySem.W.methodObj (.ref f) (.ref y));exact k a _ (.inl rfl) e
 |ext φ=>obtain⟨p,⟨o,e⟩,st⟩:=x;exact⟨st _ _ p λo q=>k _ _ (.inl rfl) q,⟨o,k _ _ (.inl rfl) e⟩,st⟩
def HOk.lt(x:HOk P w H h)(e:H a=some o):a<h.objs.size:=(x a o e).lt
def HOk.fresh{a:Addr}(x:HOk P w H h)(e:h.objs.size<=a):H a=none:=by
 cases q:H a with
 |none=>rfl
 |some u=>exact absurd (zK (x.lt q) e) (zV _)
def HOk.kept(x:HOk P w H h)(k:∀b u,h.get? b=some u->h'.get? b=some u):HOk P w H h':=λa o e =>
 (x a o e).stay (λb u _ q=>k b u q) (λ_ q=>q) λ_ _ q=>q
def HOk.laid{a:Addr}(x:HOk P w H h)(k:∀b u,h.get? b=some u->h'.get? b=some u)(j:h.objs.size<=a)(new:bU P w (upd H a o) h' a o):HOk P w (upd H a o) h':=λb u e=>by
 have d:=x.fresh j
 by_cases f:b=a
 ·subst f;rw[bx] at e;cases e;exact new
 ·rw[aD f] at e
  exact(x b u e).stay (λc v _ q=>k c v q) (λc q=>by rw[aD (bT q d)];exact q) λc m q=>by rw[aD (bT q d)];exact q
def Rd(H:Hp)(a:Addr)(u:HO):Prop:=H a=some u\/∃o,H a=some (.frz o u)
def Rd.ok       (r:Rd H a u)(x:HOk P w H h):bU P w H h a u:=by
 rcases r with r | ⟨o,r⟩
 ·exact x a u r
 ·obtain⟨_,q⟩:=x a _ r;exact q
def Mut:Option HO->Prop
 |some (.lst _)=>True
 |some (.dK _)=>True
 |some (.dT _)=>True
 |some (.dN _ _)=>True
 |some (.set _ _)=>True
 |some (.ins _ _ _)=>True
 |some (.ext _)=>True
 | _=>False
def HOk.write(ok:HOk P w H h)(m:Mut (H x))(E:e=x\/H e=some (.own x))(k:∀b u,b≠e->h.get? b=some u->h'.get? b=some u)(C:∃u,h'.get? e=some u)
  (new:bU P w (upd H x G) h' x G):HOk P w (upd H x G) h':=λb u q=>by
 have f:∀c y,H c=some (.own y)->c≠x:=λc y r z=>by subst z;rw[r] at m;exact m
 have j:∀c xs,H c=some (.tup xs)->c≠x:=λc xs r z=>by subst z;rw[r] at m;exact m
 by_cases hb:b=x
 ·subst hb;rw[bx] at q;cases q;exact new
 ·rw[aD hb] at q
  by_cases d:b=e
  ·have q':H b=some (.own x):=by
    rcases E with z | z
    ·exact absurd (d.trans z) hb
    ·rw[d];exact z
   rw[q] at q';cases q';obtain⟨v,F⟩:=C;exact⟨v,by rw[d];exact F⟩
  ·refine(ok b u q).stay (λc v t r=>k c v ?_ r) (λc r=>by rw[aD (f c b r)];exact r) λc xs r=>by rw[aD (j c xs r)];exact r
   rcases t with rfl | t
   ·exact d
   ·rintro rfl
    rcases E with z | z
    ·exact f c b t z
    ·rw[t] at z;cases z;exact hb rfl
structure Un(fs ex:List Addr)(H H':Hp)(h h':Heap):Prop where
 keep:∀b o,h.get? b=some o->H b=none->b∉fs->b∉ex->h'.get? b=some o
 slot:∀b o,h.get? b=some o->H b=none->b∈fs->b∉ex->∃sl,h'.get? b=some {o with slots:=sl}
 free:∀b o,h.get? b=some o->H b=none->b∉ex->H' b=none
 there:∀b o,h.get? b=some o->b∉ex->∃o',h'.get? b=some o'
 tups:∀b xs,H b=some (.tup xs)->H' b=some (.tup xs)
 frzs:∀b o u,H b=some (.frz o u)->H' b=some (.frz o u)
 tbls:∀b ps,H b=some (.tbl ps)->∃more,H' b=some (.tbl (ps++more))
def Un.any(u:Un fs ex H f h h1)   (q:h.get? b=some ob)(n:H b=none)(hx:b∉ex):∃sl,h1.get? b=some {ob with slots:=sl}:=by
 by_cases d:b∈fs
 ·exact u.slot b ob q n d hx
 ·exact⟨ob.slots,u.keep b ob q n d hx⟩
def Un.kept(k:∀b u,h.get? b=some u->h'.get? b=some u):Un fs ex H H h h' :=
 ⟨λb ob q _ _ _=>k b ob q,λb ob q _ _ _=>⟨ob.slots,k b ob q⟩,λ_ _ _ n _=>n,λb ob q _=>⟨ob,k b ob q⟩,λ_ _ q=>q,λ_ _ _ q=>q,λ_ d q=>⟨#[],by rw[q];simp⟩⟩
def Un.refl:Un fs ex H H h h:=Un.kept λ_ _ q=>q
def Un.laid{h:Heap}{a:Addr}(k:∀b u,h.get? b=some u->h'.get? b=some u)(hp:h.objs.size<=a)(hn:H a=none):Un fs ex H (upd H a o) h h' where
 keep:=λb u q _ _ _=>k b u q
 slot:=λb u q _ _ _=>⟨u.slots,k b u q⟩
 free:=λb u q n _=>by rw[aD (zp (zK (zl q) hp))];exact n
 there:=λb u q _=>⟨u,k b u q⟩
 tups:=λb xs q=>by rw[aD (bT q hn)];exact q
 frzs:=λb u xs q=>by rw[aD (bT q hn)];exact q
 tbls:=λb ps q=>⟨#[],by rw[aD (bT q hn),q];simp⟩
def Un.write(f:Mut (H x))(C:e=x\/H e=some (.own x))(k:∀b u,b≠e->h.get? b=some u->h'.get? b=some u)(m:∃u,h'.get? e=some u):Un fs ex H (upd H x o) h h':=by
 have hx:∀b,H b=none->b≠x:=λb n z=>by subst z;rw[n] at f;exact f
 have t:∀b,H b=none->b≠e:=λb n z=>by
  subst z
  rcases C with r | r
  ·exact hx b n r
  ·rw[n] at r;cases r
 have j:∀b u,H b=some u->¬Mut (some u)->b≠x:=λb u q nm z=>by subst z;rw[q] at f;exact nm f
 refine⟨λb u q n _ _=>k b u (t b n) q,λb u q n _ _=>⟨u.slots,k b u (t b n) q⟩,λb u q n _=>by rw[aD (hx b n)];exact n,λb u q _=>?_,
  λb y q=>by rw[aD (j b _ q λz=>z)];exact q,λb u y q=>by rw[aD (j b _ q λz=>z)];exact q,λb E q=>⟨#[],by rw[aD (j b _ q λz=>z),q];simp⟩⟩
 by_cases d:b=e
 ·subst d;exact m
 ·exact⟨u,k b u d q⟩
noncomputable def trk(h:Heap)(H:Hp):List Addr:=(List.range h.objs.size).filter λa=>(H a).isSome
def iV(h:Heap)(H:Hp):Heap:=PySem.W.hideAll h (trk h H)
def Pk(h:Heap)(H:Hp):(iV h H).objs.size=h.objs.size:=PySem.W.hideAll_size _ _
def Pn     (e:h.get? b=some o)(n:H b=none):(iV h H).get? b=some o :=
 PySem.W.hideAll_get _ e λd=>by
  have q :=(List.mem_filter.mp d).2;rw[n] at q;simp at q
def Pq     (e:(iV h H).get? b=some o):h.get? b=some o/\H b=none:=by
 have e' :=PySem.W.of_hideAll _ e;refine⟨e',?_⟩
 cases q:H b with
 |none=>rfl
 |some x =>
  have d:b∈trk h H:=List.mem_filter.mpr ⟨List.mem_range.mpr (zl e'),by simp[q]⟩;have z:(iV h H).get? b=none:=PySem.W.hideAll_none _ d;rw[z] at e;cases e
noncomputable def Pu(g h:Heap)(L:Addr):List (Addr×Obj):=(List.range h.objs.size).filterMap λa=>if a=L\/(g.get? a).isSome=true then none else(h.get? a).map λo=>(a,o)
def rest(g h:Heap)(L d:Addr):List (Addr×Obj):=(Pu g h L).filter λp=>decide (p.1≠d)
structure Mod(K:PySem.W.Frag)(mg:Str->Option Value)(base:Heap):Prop where
 kin:K.In base
 glob:base.Ns mainGlobals mg
 blt:∃mb,base.Ns builtinsNs mb/\∀x:Str,x≠"__name__"->mb x=bootBuiltins x
 nolimit:base.NoLimit
structure Cx where
 prog:Program
 w:World
 K:PySem.W.Frag
 mg:Str->Option Value
 base:Heap
 A:Around
 N:List Str
 s₀:Shared
 H₀:Hp
 env:Env
 outer:List Env
 stack:List Env
 ex:List Addr
 fn:Str->Bool
 calm:Bool
 pn:List (Addr×Obj)
 xe:Value->Shared->Prop
def frs(l:List Env):List Addr:=l.filterMap (·.frame)
abbrev Cx.fs(X:Cx):List Addr:=frs X.outer
def Vis(d:Scope)(x:Str):Prop:=d.names.lookup x=some .local\/d.names.lookup x=some .cell\/d.names.lookup x=some .free
def Loc(d:Scope)(x:Str):Prop:=d.names.lookup x=some .local\/d.names.lookup x=some .cell
def Look(env:Env)(h:Heap)(m:Str->Option Value)(x:Str)(u:Value):Prop :=
 (env.kindOf x=some .local/\m x=some u)\/((env.kindOf x=some .cell\/env.kindOf x=some .free)/\∃c,env.cells.lookup x=some c/\h.IsCell c (some u))
structure Cx.Ok(X:Cx):Prop where
 mod:Mod X.K X.mg X.base
 kind:X.env.scope.kind=.function
 glob:X.env.globals=mainGlobals
 blt:X.env.builtins=builtinsNs
 above:X.s₀.heap.objs.size<=X.env.locals
 inj:∀x y c,X.env.cells.lookup x=some c->X.env.cells.lookup y=some c->x=y
 has:∀x,(X.env.kindOf x=some .cell\/X.env.kindOf x=some .free)->∃c,X.env.cells.lookup x=some c
 cab:∀x c,X.fn x=true->X.env.cells.lookup x=some c->X.s₀.heap.objs.size<=c
 hd:X.calm=true->X.A.handled=none
 frames:X.A.frames=some X.stack
 stk:X.stack=X.outer\/(X.stack=X.env::X.outer/\X.env.frame=some X.env.locals)
 exf:∀b∈X.ex,b≠X.env.locals/\∀x c,X.env.cells.lookup x=some c->c≠b
 bs:∀b o,X.base.get? b=some o->X.s₀.heap.get? b=some o/\X.H₀ b=none
 bsz:X.base.objs.size<=X.s₀.heap.objs.size
 noex:∀b o,X.base.get? b=some o->b∉X.ex
 exfs:∀b∈X.ex,b∉X.fs
 funs:X.s₀.heap.FunFrames X.base X.outer
 frf:∀b∈X.fs,X.H₀ b=none
structure Inv(X:Cx)(pins:List (Addr×Obj))(σ:List (Option V))(H:Hp)(s:Shared):Prop where
 ok:X.Ok
 os:s.os=X.s₀.os
 bare:AllBare s.gens
 base:Un X.fs X.ex X.H₀ H X.s₀.heap s.heap
 loc:∃m,s.heap.Ns X.env.locals m/\∀(i:Nat) (x:Str) (v:V),X.N[i]?=some x->σ[i]?=some (some v)->Vis X.env.scope x->∃u,RelV v u/\Look X.env s.heap m x u
 cell:∀x c,X.env.cells.lookup x=some c->∃v,s.heap.IsCell c v
 free:H X.env.locals=none
 freeC:∀x c,X.env.cells.lookup x=some c->H c=none
 pin:∀p∈X.pn++pins,s.heap.get? p.1=some p.2/\H p.1=none/\p.1≠X.env.locals/\p.1∉X.fs/\∀v,p.2.data≠.cell v
 hok:HOk X.prog X.w H s.heap
 len:σ.length=X.N.length
def Cx.Ok.nofr{X:Cx}(ok:X.Ok)   (e:X.base.get? b=some o):b∉X.fs:=λd=>by
 have:=(ok.funs.mem d).1
 rw[e] at this;cases this
def Inv.bs(I:Inv X d σ H s):∀b o,X.base.get? b=some o->s.heap.get? b=some o/\H b=none:=λb o e =>
 ⟨I.base.keep b o (I.ok.bs b o e).1 (I.ok.bs b o e).2 (I.ok.nofr e) (I.ok.noex b o e),I.base.free b o (I.ok.bs b o e).1 (I.ok.bs b o e).2 (I.ok.noex b o e)⟩
def Inv.bk(I:Inv X d σ H s):∀b o,X.base.get? b=some o->s.heap.get? b=some o:=λb o e=>(I.bs b o e).1
def Inv.mod(I:Inv X d σ H s):Mod X.K X.mg X.base:=I.ok.mod
def Inv.kIn(I:Inv X d σ H s):X.K.In s.heap:=I.ok.mod.kin.keeps I.bk
def Inv.lt(I:Inv X d σ H s):X.env.locals<s.heap.objs.size:=let ⟨_,hn,_⟩:=I.loc;hn.lt
def Inv.sz(I:Inv X d σ H s):X.s₀.heap.objs.size<=s.heap.objs.size:=zN I.ok.above (Nat.le_of_lt I.lt)
def Inv.nofs(I:Inv X j σ H s){a:Addr}(h:s.heap.objs.size<=a):a∉X.fs:=λf=>by
 obtain⟨_,o,d,_⟩:=I.ok.funs.mem f;exact absurd (zK (zl d) (zN I.sz h)) (zV _)
def Inv.cne(I:Inv X C σ H s):∀x c,X.env.cells.lookup x=some c->c≠X.env.locals:=λx c e z=>by
 obtain⟨v,o,j,hd⟩:=I.cell x c e;obtain⟨m,⟨t,u,y,d,f,_⟩,_⟩:=I.loc;rw[z,d] at j;cases j;rw[f] at hd;cases hd
def Inv.funs(I:Inv X C σ H s):s.heap.FunFrames X.base X.outer:=by
 have all:∀(l:List Env),(∀b∈frs l,b∈X.fs)->X.s₀.heap.FunFrames X.base l->s.heap.FunFrames X.base l:=by
  intro l
  induction l with
  |nil=>intro _ _;trivial
  |cons env r ih =>
   intro hs x;obtain⟨y,⟨L,o,d,u,t,hd⟩,m⟩:=x;have j:L∈X.fs:=hs L (by unfold frs;rw[List.filterMap_cons,d];exact zd)
   obtain⟨sl,e⟩:=I.base.slot L o t (I.ok.frf L j) j λz=>I.ok.exfs L z j
   exact⟨y,⟨L,_,d,u,e,hd⟩,ih (λb f=>hs b (by unfold frs;rw[List.filterMap_cons,d];exact zm _ f)) m⟩
 exact all X.outer (λ_ f=>f) I.ok.funs
def Inv.stack(I:Inv X j σ H s):s.heap.FunFrames X.base X.stack:=by
 rcases I.ok.stk with e | ⟨e,f⟩
 ·rw[e];exact I.funs
 ·rw[e];obtain⟨m,d,_⟩:=I.loc;refine .cons (by rw[I.ok.kind];decide) f d ?_ I.funs;exact Heap.get?_none_of_le (zN I.ok.bsz I.ok.above)
def Inv.stkSub(I:Inv X j σ H s):∀b∈frs X.stack,b∈X.env.locals::X.fs:=λb d=>by
 rcases I.ok.stk with e | ⟨e,f⟩
 ·rw[e] at d;exact zm _ d
 ·rw[e] at d;unfold frs at d;rw[List.filterMap_cons,f] at d;exact d
def Inv.stkFree(I:Inv X j σ H s):∀b∈frs X.stack,H b=none:=λb d=>by
 rcases zk.mp (I.stkSub b d) with e | d
 ·rw[e];exact I.free
 ·obtain⟨_,o,f,_⟩:=I.ok.funs.mem d
  exact I.base.free b o f (I.ok.frf b d) λz=>I.ok.exfs b z d
def Inv.step    {ch:List Addr}(I:Inv X Z σ H s)
  (j:∀b∈ch,(b∈X.ex\/X.s₀.heap.objs.size<=b)/\b≠X.env.locals/\(∀x c,X.env.cells.lookup x=some c->c≠b)/\∀p∈X.pn++Z,p.1≠b)
  (keep:∀b o,b≠X.env.locals->b∉X.fs->b∉ch->s.heap.get? b=some o->H b=none->h'.get? b=some o)
  (slot:∀b o,b≠X.env.locals->b∈X.fs->b∉ch->s.heap.get? b=some o->H b=none->∃sl,h'.get? b=some {o with slots:=sl}) (free:∀b o,b∉ch->s.heap.get? b=some o->H b=none->H' b=none)
  (there:∀b o,b∉ch->s.heap.get? b=some o->∃F,h'.get? b=some F)
  (tups:∀b xs,H b=some (.tup xs)->H' b=some (.tup xs)) (frzs:∀b o u,H b=some (.frz o u)->H' b=some (.frz o u)) (tbls:∀b ps,H b=some (.tbl ps)->∃more,H' b=some (.tbl (ps++more)))
  (ns:∀m,s.heap.Ns X.env.locals m->h'.Ns X.env.locals m) (hok:HOk X.prog X.w H' h') (W:AllBare g'):
  Inv X Z σ H' {s with heap:=h',gens:=g',drawn:=d',toks:=t'}:=by
 have J:∀b o,X.s₀.heap.get? b=some o->b≠X.env.locals:=λb o e=>zp (zK (zl e) I.ok.above)
 have y:∀b o,X.s₀.heap.get? b=some o->b∉X.ex->b∉ch:=λb o e hx C=>by
  rcases(j b C).1 with z | z
  ·exact hx z
  ·exact absurd (zK (zl e) z) (zV _)
 have cellK:∀x c,X.env.cells.lookup x=some c->∀v,s.heap.IsCell c v->h'.IsCell c v:=λx c e v ⟨o,E,hd⟩=>by
  have f:c∉ch:=λz=>(j c z).2.2.1 x c e rfl
  by_cases P:c∈X.fs
  ·obtain⟨sl,q⟩:=slot c o (I.cne x c e) P f E (I.freeC x c e);exact⟨_,q,hd⟩
  ·exact⟨o,keep c o (I.cne x c e) P f E (I.freeC x c e),hd⟩
 refine⟨I.ok,I.os,W,⟨λb o e n C hx=>?_,λb o e n C hx=>?_,λb o e n hx=>?_,λb o e hx=>?_,λb xs e=>tups b xs (I.base.tups b xs e),λb o xs e=>frzs b o xs (I.base.frzs b o xs e),λb ps e=>?_⟩,?_,λx c e=>?_,?_,λx c e=>?_,λp O=>?_,hok,I.len⟩
 ·exact keep b o (J b o e) C (y b o e hx) (I.base.keep b o e n C hx) (I.base.free b o e n hx)
 ·obtain⟨sl,t⟩:=I.base.slot b o e n C hx;obtain⟨L,G⟩:=slot b _ (J b o e) C (y b o e hx) t (I.base.free b o e n hx);exact⟨L,G⟩
 ·obtain⟨F,t⟩:=I.base.there b o e hx;exact free b F (y b o e hx) t (I.base.free b o e n hx)
 ·obtain⟨F,t⟩:=I.base.there b o e hx;exact there b F (y b o e hx) t
 ·obtain⟨R,t⟩:=I.base.tbls b ps e;obtain⟨Q,G⟩:=tbls b _ t;exact⟨R++Q,by rw[G,Array.append_assoc]⟩
 ·obtain⟨m,T,U⟩:=I.loc;refine⟨m,ns m T,λi x v t G Y=>?_⟩;obtain⟨u,r,l⟩:=U i x v t G Y;refine⟨u,r,?_⟩
  rcases l with l | ⟨k,c,e,z⟩
  ·exact .inl l
  ·exact .inr ⟨k,c,e,cellK x c e _ z⟩
 ·obtain⟨v,z⟩:=I.cell x c e;exact⟨v,cellK x c e v z⟩
 ·obtain⟨m,⟨o,_,_,E,_⟩,_⟩:=I.loc;exact free _ o (λz=>(j _ z).2.1 rfl) E I.free
 ·obtain⟨v,o,E,hd⟩:=I.cell x c e;exact free c o (λz=>(j c z).2.2.1 x c e rfl) E (I.freeC x c e)
 ·obtain⟨e,n,ne,nf,d⟩:=I.pin p O
  have f:p.1∉ch:=λz=>(j p.1 z).2.2.2 p O rfl
  exact⟨keep p.1 p.2 ne nf f e n,free p.1 p.2 f e n,ne,nf,d⟩
def Inv.un  (I:Inv X O σ H s)(u:Un X.fs [] H P s.heap h')(hok:HOk X.prog X.w P h'):Inv X O σ P {s with heap:=h',toks:=t'}:=by
 obtain⟨m,⟨o,J,L,x,r⟩,_⟩:=id I.loc;obtain⟨sl,E⟩:=u.any x I.free (by simp)
 exact I.step (g':=s.gens) (d':=s.drawn) (ch:=[]) (λ_ z=>nomatch z) (λb o _ f _ e n=>u.keep b o e n f (by simp)) (λb o _ f _ e n=>u.slot b o e n f (by simp)) (λb o _ e n=>u.free b o e n (by simp)) (λb o _ e=>u.there b o e (by simp)) u.tups u.frzs u.tbls (λG C=>by
  obtain⟨F,j,t,d,y⟩:=C;rw[x] at d;cases d
  exact⟨_,j,t,E,y⟩) hok I.bare
def Inv.call     (I:Inv X T σ H s)(u:Un (frs X.stack) ch H U s.heap h')(hok:HOk X.prog X.w U h')(J:AllBare g')
  (j:∀b∈ch,(b∈X.ex\/X.s₀.heap.objs.size<=b)/\b≠X.env.locals/\(∀x c,X.env.cells.lookup x=some c->c≠b)/\∀p∈X.pn++T,p.1≠b):
  Inv X T σ U {s with heap:=h',gens:=g',drawn:=d',toks:=t'}:=by
 obtain⟨m,⟨o,Q,R,E,r⟩,_⟩:=id I.loc
 obtain⟨sl,t⟩:=u.any E I.free λz=>(j _ z).2.1 rfl
 exact I.step (ch:=ch) j (λb o t L d e n=>u.keep b o e n (λz=>(zk.mp (I.stkSub b z)).elim t L) d) (λb o _ _ d e n=>u.any e n d) (λb o d e n=>u.free b o e n d) (λb o d e=>u.there b o e d) u.tups u.frzs u.tbls (λP G=>by
  obtain⟨O,y,C,f,F⟩:=G;rw[E] at f;cases f
  exact⟨_,y,C,t,F⟩) hok J
def Inv.turned   (I:Inv X L σ H s)(k:∀b o,b≠it->s.heap.get? b=some o->h'.get? b=some o)(y:H it=none)(j:it≠X.env.locals)
  (h1:it∈X.ex\/X.s₀.heap.objs.size<=it) (h2:∀x c,X.env.cells.lookup x=some c->c≠it) (h3:∀p∈X.pn++L,p.1≠it):Inv X L σ H {s with heap:=h',toks:=t'}:=by
 have f:∀b u,H b=some u->b≠it:=λb u e z=>by rw[z,y] at e;cases e
 refine I.step (g':=s.gens) (d':=s.drawn) (ch:=[it]) (λb E=>?_) (λb o _ _ d e _=>k b o (λz=>d (by simp[z])) e) (λb o _ _ d e _=>⟨o.slots,k b o (λz=>d (by simp[z])) e⟩) (λ_ _ _ _ n=>n)
  (λb o d e=>⟨o,k b o (λz=>d (by simp[z])) e⟩) (λ_ _ e=>e) (λ_ _ _ e=>e) (λb J e=>⟨#[],by rw[e];simp⟩) (λm C=>?_) (λb u e=>?_) I.bare
 ·have e:b=it:=by simpa using E
  subst e;exact⟨h1,j,h2,h3⟩
 ·obtain⟨o,F,G,t,r⟩:=C;exact⟨o,F,G,k _ o (Ne.symm j) t,r⟩
 ·refine(I.hok b u e).stay (λc v d q=>k c v ?_ q) (λ_ q=>q) λ_ _ q=>q
  rcases d with z | z
  ·rw[z];exact f b u e
  ·exact f c _ z
def Inv.tok(I:Inv X d σ H s)(t:Nat):Inv X d σ H {s with toks:=t}:=I.un Un.refl I.hok
def Inv.kept  (I:Inv X d σ H s)(k:∀b u,s.heap.get? b=some u->h'.get? b=some u):Inv X d σ H {s with heap:=h',toks:=t'}:=I.un (Un.kept k) (I.hok.kept k)
def Inv.laid{a:Addr}   (I:Inv X f σ H s)(k:∀b u,s.heap.get? b=some u->h'.get? b=some u)(d:s.heap.objs.size<=a)(new:bU X.prog X.w (upd H a o) h' a o):
  Inv X f σ (upd H a o) {s with heap:=h',toks:=t'}:=I.un (Un.laid k d (I.hok.fresh d)) (I.hok.laid k d new)
def Inv.write    (I:Inv X m σ H s)(f:Mut (H x))(j:e=x\/H e=some (.own x))(k:∀b u,b≠e->s.heap.get? b=some u->h'.get? b=some u)(d:∃u,h'.get? e=some u)
  (new:bU X.prog X.w (upd H x o) h' x o):Inv X m σ (upd H x o) {s with heap:=h',toks:=t'}:=I.un (Un.write f j k d) (I.hok.write f j k d new)
def Inv.pins_of  (I:Inv X j σ H s)(h:∀p∈f,s.heap.get? p.1=some p.2/\H p.1=none/\p.1≠X.env.locals/\p.1∉X.fs/\∀v,p.2.data≠.cell v):Inv X f σ H s :=
 ⟨I.ok,I.os,I.bare,I.base,I.loc,I.cell,I.free,I.freeC,λp d=>(zx.mp d).elim (λz=>I.pin p (zZ _ z)) (h p),I.hok,I.len⟩
def CG{N:List Str}(hN:N.Nodup){i:Nat}  (a:N[i]?=some x)(b:N[j]?=some x):i=j:=by
 obtain⟨h1,f⟩:=zu.mp a;obtain⟨h2,d⟩:=zu.mp b;exact(List.getElem_inj hN).mp (f.trans d.symm)
def Px         (I:Inv X pins σ H s)(hN:X.N.Nodup)(T:X.N[i]?=some x)(hx:Loc X.env.scope x)(r:RelV v u)
  (h:∀s',Inv X pins (σ.set i (some v)) H s'->(∃a,Heap.SameBut a s.heap s'.heap/\(a=X.env.locals\/X.env.cells.lookup x=some a))->Q () s') (hf:X.fn x=true\/X.env.scope.names.lookup x=some .local:=by first | exact .inl rfl | exact .inr rfl | assumption):wpAny M A (storeName X.env x u) Q E s:=by
 obtain⟨m,hn,hl⟩:=id I.loc
 have hcls:(X.env.scope.kind == .class || (X.env.scope.kind == .module&&X.env.locals != X.env.globals))=false:=by rw[I.ok.kind];rfl
 have J:i<σ.length:=by rw[I.len];exact(zu.mp T).1
 have cne:=I.cne
 have tracked:∀{a:Addr}{R:Heap},(∃o,s.heap.get? a=some o/\H a=none)->Heap.SameBut a s.heap R->HOk X.prog X.w H R:=λ{a R} ha hs b ob e=>by
  obtain⟨_,_,C⟩:=ha
  refine(I.hok b ob e).stay (λc w' t q=>(hs.2 c ?_).trans q) (λ_ q=>q) λ_ _ q=>q
  rintro rfl
  rcases t with rfl | t
  ·rw[C] at e;cases e
  ·rw[C] at t;cases t
 rcases hx with G | G
 ·refine wpAny_storeName_local G hn (λR hn' hs=>?_) hcls;obtain⟨oL,_,_,hoL,_⟩:=id hn;refine h _ ⟨I.ok,I.os,I.bare,⟨λb o e n O hx=>?_,λb o e n O hx=>?_,I.base.free,λb o e hx=>?_,I.base.tups,I.base.frzs,I.base.tbls⟩,⟨_,hn',λj y v' f F e3=>?_⟩,λy c e=>?_,I.free,I.freeC,λp hp=>?_,tracked ⟨oL,hoL,I.free⟩ hs,by simpa using I.len⟩ ⟨_,hs,.inl rfl⟩
  ·exact(hs.2 b (zp (zK (zl e) I.ok.above))).trans (I.base.keep b o e n O hx)
  ·obtain⟨sl,f⟩:=I.base.slot b o e n O hx;exact⟨sl,(hs.2 b (zp (zK (zl e) I.ok.above))).trans f⟩
  ·obtain⟨o',f⟩:=I.base.there b o e hx;exact⟨o',(hs.2 b (zp (zK (zl e) I.ok.above))).trans f⟩
  ·by_cases L:j=i
   ·subst L;rw[T] at f;cases f;rw[zQ J] at F;cases F;exact⟨u,r,.inl ⟨G,by simp⟩⟩
   ·rw[zj (Ne.symm L)] at F;obtain⟨u',r',q⟩:=hl j y v' f F e3;refine⟨u',r',?_⟩
    rcases q with⟨k,e⟩ | ⟨k,c,e,z⟩
    ·refine .inl ⟨k,?_⟩
     have:y≠x:=λe=>L (CG hN f (e ▸ T))
     simp[this,e]
    ·exact .inr ⟨k,c,e,z.sameBut hs (cne y c e)⟩
  ·obtain⟨w',z⟩:=I.cell y c e;exact⟨w',z.sameBut hs (cne y c e)⟩
  ·obtain⟨e,n,ne,nf,d⟩:=I.pin p hp;exact⟨(hs.2 p.1 ne).trans e,n,ne,nf,d⟩
 ·have P:X.fn x=true:=by
   rcases hf with z | z
   ·exact z
   ·rw[z] at G;cases G
  obtain⟨c,t⟩:=I.ok.has x (.inl G);obtain⟨w',z⟩:=I.cell x c t;refine wpAny_storeName_cell I.ok.kind G t z (λR Y hs=>?_);obtain⟨oc,U,Z⟩:=id z;refine h {s with heap:=R} ⟨I.ok,I.os,I.bare,⟨λb o e n O hx=>?_,λb o e n O hx=>?_,I.base.free,λb o e hx=>?_,I.base.tups,I.base.frzs,I.base.tbls⟩,⟨m,hn.sameBut hs (Ne.symm (cne x c t)),λj y v' f F e3=>?_⟩,λy c' e=>?_,I.free,I.freeC,λp hp=>?_,tracked ⟨oc,U,I.freeC x c t⟩ hs,by simpa using I.len⟩ ⟨c,hs,.inr t⟩
  ·exact(hs.2 b (zp (zK (zl e) (I.ok.cab x c P t)))).trans (I.base.keep b o e n O hx)
  ·obtain⟨sl,f⟩:=I.base.slot b o e n O hx;exact⟨sl,(hs.2 b (zp (zK (zl e) (I.ok.cab x c P t)))).trans f⟩
  ·obtain⟨o',f⟩:=I.base.there b o e hx;exact⟨o',(hs.2 b (zp (zK (zl e) (I.ok.cab x c P t)))).trans f⟩
  ·by_cases L:j=i
   ·subst L;rw[T] at f;cases f;rw[zQ J] at F;cases F;exact⟨u,r,.inr ⟨.inl G,c,t,Y⟩⟩
   ·rw[zj (Ne.symm L)] at F;obtain⟨u',r',q⟩:=hl j y v' f F e3;refine⟨u',r',?_⟩
    rcases q with q | ⟨k,c',e,z'⟩
    ·exact .inl q
    ·refine .inr ⟨k,c',e,z'.sameBut hs ?_⟩;rintro rfl;exact L (CG hN f (I.ok.inj _ _ _ e t ▸ T))
  ·by_cases W:c'=c
   ·subst W;exact⟨_,Y⟩
   ·obtain⟨w2,z2⟩:=I.cell y c' e;exact⟨w2,z2.sameBut hs W⟩
  ·obtain⟨e,n,ne,nf,d⟩:=I.pin p hp;refine⟨(hs.2 p.1 ?_).trans e,n,ne,nf,d⟩;intro q;rw[q,U] at e;have q':oc=p.2:=zE e;exact d w' (by rw[<-q'];exact Z)
def vP         (I:Inv X m σ H s)(hN:X.N.Nodup)(f:X.N[i]?=some x)(hx:Loc X.env.scope x)(r:RelV v u)
  (h:∀d,Inv X m (σ.set i (some v)) H d->Q () d) (j:X.fn x=true\/X.env.scope.names.lookup x=some .local:=by first | exact .inl rfl | exact .inr rfl | assumption):wpAny M A (storeName X.env x u) Q E s :=
 Px I hN f hx r λd I' _=>h d I'
def Inv.call'   (I:Inv X y σ H s)(j:C.os=s.os)(u:Un (frs X.stack) ch H E s.heap C.heap)(hok:HOk X.prog X.w E C.heap)(m:AllBare C.gens)
  (d:∀b∈ch,(b∈X.ex\/X.s₀.heap.objs.size<=b)/\b≠X.env.locals/\(∀x c,X.env.cells.lookup x=some c->c≠b)/\∀p∈X.pn++y,p.1≠b):Inv X y σ E C:=by
 obtain⟨t,g',d',t',f⟩:=C;have e:f=s.os:=j;subst e;exact I.call (g':=g') (t':=t') (d':=d') u hok m d
abbrev XK:=Value->Option Addr->Hp->Prop
abbrev St:=List (Option V)
abbrev VK:=V->Hp->Prop
abbrev TE:=St->Hp->VK->Prop
abbrev TT:=St->Hp->(Bool->Hp->Prop)->Prop
abbrev TA:=St->Hp->(List V->Hp->Prop)->Prop
structure Ends where
 nx:St->Hp->Prop
 rt:VK
 bk:St->Hp->Prop:=λ_ _=>False
 ct:St->Hp->Prop:=λ_ _=>False
abbrev TS:=Ends->St->Hp->Prop
inductive EP (X:Cx) (pins:List (Addr×Obj)) (σ:St) (Q:VK) (u:Value) (s':Shared):Prop
 | mk:∀v H',Inv X pins σ H' s'->RelV v u->Q v H'->EP X pins σ Q u s'
def TP(X:Cx)(pins:List (Addr×Obj))(σ:St)(Q:Bool->Hp->Prop)(b:Bool)(f:Shared):Prop:=∃d,Inv X pins σ d f/\Q b d
inductive AP (X:Cx) (pins:List (Addr×Obj)) (σ:St) (Q:List V->Hp->Prop) (us:List Value) (s':Shared):Prop
 | mk:∀vs H',Inv X pins σ H' s'->aF vs us->Q vs H'->AP X pins σ Q us s'
def SP(X:Cx)(pins:List (Addr×Obj))(D:Ends)(f:Flow)(m:Shared):Prop :=
 match f with
 | .next=>∃d j,Inv X pins d j m/\D.nx d j
 | .brk=>∃d j,Inv X pins d j m/\D.bk d j
 | .cont=>∃d j,Inv X pins d j m/\D.ct d j
 | .ret u=>∃v d j,Inv X pins d j m/\RelV v u/\D.rt v j
def PE(X:Cx)(e:Expr)(t:TE):Prop :=
 ∀(pins:List (Addr×Obj)) (s:Shared) (σ:St) (H:Hp) (Q:VK),Inv X pins σ H s->t σ H Q->wpAny (model X.prog X.w) X.A (eval e X.env) (EP X pins σ Q) X.xe s
def PT(X:Cx)(e:Expr)(t:TT):Prop :=
 ∀(pins:List (Addr×Obj)) (s:Shared) (σ:St) (H:Hp) (Q:Bool->Hp->Prop),Inv X pins σ H s->t σ H Q->wpAny (model X.prog X.w) X.A (isTrue e X.env (eval e X.env)) (TP X pins σ Q) X.xe s
def PW(X:Cx)(e:Expr)(t:TT):Prop :=
 ∀(whole:Sem Value) (pins:List (Addr×Obj)) (s:Shared) (σ:St) (H:Hp) (Q:Bool->Hp->Prop),Inv X pins σ H s->t σ H Q->wpAny (model X.prog X.w) X.A (isTrue e X.env whole) (TP X pins σ Q) X.xe s
def PW.pt    (h:PW X e t):PT X e t:=h _
def PA(X:Cx)(es:List Expr)(t:TA):Prop :=
 ∀(d:Pos) (pins:List (Addr×Obj)) (s:Shared) (σ:St) (H:Hp) (Q:List V->Hp->Prop),Inv X pins σ H s->t σ H Q->wpAny (model X.prog X.w) X.A (spliced (backTo d (starEach es X.env))) (AP X pins σ Q) X.xe s
def PS(X:Cx)(st:Stmt)(t:TS):Prop :=
 ∀(pins:List (Addr×Obj)) (s:Shared) (σ:St) (H:Hp) (D:Ends),Inv X pins σ H s->t D σ H->wpAny (model X.prog X.w) X.A (exec st X.env) (SP X pins D) X.xe s
def PSs(X:Cx)(st:List Stmt)(t:TS):Prop :=
 ∀(pins:List (Addr×Obj)) (s:Shared) (σ:St) (H:Hp) (D:Ends),Inv X pins σ H s->t D σ H->wpAny (model X.prog X.w) X.A (execs st X.env) (SP X pins D) X.xe s
def thn  {t:Sem α}{Q d:α->Shared->Prop}     (h:wpAny M A t Q E s)(f:∀a s,Q a s->d a s):wpAny M A t d E s:=zT h f λ_ _ x=>x
def Py(i:Nat):TE:=λσ H Q=>∃v,σ[i]?=some (some v)/\Q v H
def tC(v:V):TE:=λ_ H Q=>Q v H
def jY{X:Cx}   {j:Pos}(hN:X.N[i]?=some x)(hv:Vis X.env.scope x)(hd:(x == ("__debug__":Str))=false:=by decide)(t:(x == ("__classdict__":Str))=false:=by decide):PE X (.Name x j) (Py i):=by
 intro pins s σ H Q I h;obtain⟨v,e,h⟩:=h;obtain⟨m,C,F⟩:=I.loc;obtain⟨u,r,l⟩:=F i x v hN e hv;have fin:EP X _ σ Q u s:=⟨v,H,I,r,h⟩
 rcases l with⟨f,E⟩ | ⟨f,c,y,d⟩
 ·exact wpAny_Name (wpAny_loadName_local I.ok.kind f C E fin) hd
 ·rcases f with f | f
  ·exact wpAny_Name (wpAny_loadName_cell I.ok.kind f y d fin) hd
  ·exact wpAny_Name (wpAny_loadName_free I.ok.kind f y d fin t) hd
def Pz :PE X (.Constant (.int i) j d) (tC (.int i)):=λ_ _ _ H _ I h=>wpAny_Constant_int ⟨.int i,H,I.tok _,⟨_,rfl⟩,h⟩
def PB :PE X (.Constant (.bool b) j d) (tC (.bl b)):=λ_ _ _ H _ I h=>Constant_bool ⟨.bl b,H,I,rfl,h⟩
def PJ :PE X (.Constant .none j d) (tC .non):=λ_ _ _ H _ I h=>Constant_none ⟨.non,H,I,rfl,h⟩
def CJ :PE X (.Constant (.str x) j d) (tC (.str x)):=λ_ _ _ H _ I h=>Calls.Constant_str ⟨.str x,H,I.tok _,⟨_,rfl⟩,h⟩
def Gl(X:Cx)(x:Str):Prop:=X.env.kindOf x=some .globalImplicit
def rM    {σ:St}      (I:Inv X j σ H s)(f:Gl X x)(d:X.mg x=some u)(h:Q u s)
  (hd:(x == ("__debug__":Str))=false:=by decide):wpAny (model X.prog X.w) X.A (eval (.Name x pos) X.env) Q E s :=
 Calls.Name_function_global I.ok.kind f (Calls.loadGlobal_global (by rw[I.ok.glob];exact I.mod.glob.keeps I.bk) d h) hd
def jZ{E:Value->Shared->Prop}   {σ:St}    {d:Pos}  (I:Inv X t σ H s)(m:Gl X x)(j:X.mg x=none)(hv:bootBuiltins x=some u)(h:Q u s)
  (f:x≠"__name__":=by decide) (hd:(x == ("__debug__":Str))=false:=by decide):wpAny (model X.prog X.w) X.A (eval (.Name x d) X.env) Q E s:=by
 obtain⟨mb,h1,h2⟩:=I.mod.blt;exact Calls.Name_function_global I.ok.kind m (Calls.loadGlobal_builtin (by rw[I.ok.glob];exact I.mod.glob.keeps I.bk) j (by rw[I.ok.blt];exact h1.keeps I.bk) ((h2 x f).trans hv) h) hd
def PK     (f:Gl X x)(d:X.mg x=some u)(r:RelV v u)(hd:(x == ("__debug__":Str))=false:=by decide):PE X (.Name x pos) (tC v):=
 λ_ _ _ H _ I h=>rM I f d ⟨v,H,I,r,h⟩ hd
def PL    {d:Pos}(m:Gl X x)(j:X.mg x=none)(hv:bootBuiltins x=some u)(r:RelV v u)(f:x≠"__name__":=by decide)(hd:(x == ("__debug__":Str))=false:=by decide):PE X (.Name x d) (tC v):=
 λ_ _ _ H _ I h=>jZ I m j hv ⟨v,H,I,r,h⟩ f hd
def PC(X:Cx)(op:CmpOp)(a b:Expr)(t:TE):Prop :=
 ∀(pins:List (Addr×Obj)) (s:Shared) (σ:St) (H:Hp) (Q:VK),Inv X pins σ H s->t σ H Q ->
  wpAny (model X.prog X.w) X.A (eval a X.env) (λv f=>wpAny (model X.prog X.w) X.A (eval b X.env) (λu d=>wpAny (model X.prog X.w) X.A (compareOp op v u) (EP X pins σ Q) X.xe d) X.xe f) X.xe s
def PN(b:Expr)  (h:op≠.In)(h2:op≠.NotIn):behindInMarks op b=false:=by
 have f:(op == CmpOp.In)=false:=by cases op<;>first | rfl | exact absurd rfl h
 have d:(op == CmpOp.NotIn)=false:=by cases op<;>first | rfl | exact absurd rfl h2
 cases b<;>simp[behindInMarks,f,d]
def CK(d:TE):TE:=λσ H Q=>d σ H λx f=>Q (.bl (decide (x=.non))) f
def CN(d:TE):TE:=λσ H Q=>d σ H λx f=>Q (.bl (!decide (x=.non))) f
def RelV.none_iff   (r:RelV x v):(v == Value.none)=decide (x=.non):=by
 cases x with
 |non=>cases r;rfl
 |bl _=>cases r;rfl
 |int _=>obtain⟨t,rfl⟩:=r;rfl
 |str _=>obtain⟨t,rfl⟩:=r;rfl
 |byt _=>obtain⟨t,rfl⟩:=r;rfl
 |flt _=>obtain⟨t,rfl⟩:=r;rfl
 |ref _=>cases r;rfl
 |ty _=>cases r;rfl
def PP  (d:PE X a m):PC X .Is a (.Constant .none j f) (CK m):=by
 intro pins s σ H Q I h
 refine thn (d _ s σ H _ I h) λv s1 ⟨x,H1,I1,r1,q1⟩=>?_
 exact Constant_none (is_none_gen ⟨.bl _,H1,I1,by rw[r1.none_iff];rfl,q1⟩)
def PQ  (d:PE X a m):PC X .IsNot a (.Constant .none j f) (CN m):=by
 intro pins s σ H Q I h
 refine thn (d _ s σ H _ I h) λv s1 ⟨x,H1,I1,r1,q1⟩=>?_
 exact Constant_none (isnot_none_gen ⟨.bl _,H1,I1,by rw[r1.none_iff];rfl,q1⟩)
def tB(t:TE):TT:=λσ H Q=>t σ H λx d=>∃c,x=.bl c/\Q c d
def vQ   (h:PC X op a b t)(h1:behindInMarks op b=false:=by first | exact PN _ (by decide) (by decide) | rfl):PT X (.Compare a [op] [b] pos) (tB t):=by
 intro pins s σ H Q I f;refine wpAny_isTrue_Compare1 (thn (h _ s σ H _ I f) λv m h1=>thn h1 λu j h2=>thn h2 λc s3 ⟨x,H1,I1,r1,q1⟩=>?_) h1;obtain⟨d,rfl,q⟩:=q1;cases r1;exact wpAny_truthy_bool ⟨H1,I1,q⟩
def CP(t u:TT):TT:=λσ H Q=>t σ H λc d=>if c=true then u σ d Q else Q false d
def tOr(t u:TT):TT:=λσ H Q=>t σ H λc d=>if c=true then Q true d else u σ d Q
def PX(t:TT):TT:=λσ H Q=>t σ H λc d=>Q (!c) d
def P0(d:PT X a tA):PW X (.BoolOp .And [a] pos) tA:=by
 intro f pins s σ H Q I h;refine isTrue_and (thn (d _ s σ H Q I h) λc j e=>?_)
 cases c with
 |true=>exact isTrue_and_nil e
 |false=>exact e
def Qa(d:PT X a tA):PW X (.BoolOp .Or [a] pos) tA:=by
 intro f pins s σ H Q I h;refine isTrue_or (thn (d _ s σ H Q I h) λc j e=>?_)
 cases c with
 |false=>exact isTrue_or_nil e
 |true=>exact e
def Qc{rest:List Expr}(f:PT X a tA)(hb:PW X (.BoolOp .And (b::rest) pos) tB'):PW X (.BoolOp .And (a::b::rest) pos) (CP tA tB'):=by
 intro d pins s σ H Q I h;refine isTrue_and (thn (f _ s σ H _ I h) λc s1 ⟨H1,I1,q1⟩=>?_)
 cases c with
 |true=>exact hb d _ s1 σ H1 Q I1 q1
 |false=>exact⟨H1,I1,q1⟩
def Qd{rest:List Expr}(f:PT X a tA)(hb:PW X (.BoolOp .Or (b::rest) pos) tB'):PW X (.BoolOp .Or (a::b::rest) pos) (tOr tA tB'):=by
 intro d pins s σ H Q I h;refine isTrue_or (thn (f _ s σ H _ I h) λc s1 ⟨H1,I1,q1⟩=>?_)
 cases c with
 |true=>exact⟨H1,I1,q1⟩
 |false=>exact hb d _ s1 σ H1 Q I1 q1
def Qe(d:PT X a f):PT X (.UnaryOp .Not a j) (PX f):=by
 intro pins s σ H Q I h;exact isTrue_not (d _ s σ H _ I h)
def Qf(j f:TE):TE:=λσ H Q=>j σ H λx d=>∃c,x=.bl c/\if c=true then f σ d Q else Q (.bl false) d
def Qg(d:TE):TE:=λσ H Q=>d σ H λx f=>∃c,x=.bl c/\Q (.bl (!c)) f
def Qh   (h:PE X a t):PE X (.BoolOp op [a] f) t:=λpins s σ H Q I d=>BoolOp_one (h _ s σ H Q I d)
def Qi{rest:List Expr}(f:PE X a ta)(hb:PE X (.BoolOp .And (b::rest) pos) tb):PE X (.BoolOp .And (a::b::rest) pos) (Qf ta tb):=by
 intro pins s σ H Q I h;refine BoolOp_and (thn (f _ s σ H _ I h) λv s1 ⟨x,H1,I1,r1,d⟩=>?_);obtain⟨c,rfl,d⟩:=d;cases r1;refine wpAny_truthy_bool ?_
 cases c with
 |true=>exact hb _ s1 σ H1 Q I1 d
 |false=>exact⟨.bl _,H1,I1,rfl,d⟩
def Qj(f:PE X a j):PE X (.UnaryOp .Not a m) (Qg j):=by
 intro pins s σ H Q I h;refine UnaryOp_ (thn (f _ s σ H _ I h) λv s1 ⟨x,H1,I1,r1,d⟩=>?_);obtain⟨c,rfl,d⟩:=d;cases r1;exact not_of (wpAny_truthy_bool ⟨.bl _,H1,I1,rfl,d⟩)
def tIf(t:TT)(j f:TE):TE:=λσ H Q=>t σ H λc d=>if c=true then j σ d Q else f σ d Q
def CQ  (f:PT X c tA)(j:PE X a ta)(hb:PE X b tb):PE X (.IfExp c a b pos) (tIf tA ta tb):=by
 intro pins s σ H Q I h;refine wpAny_IfExp (thn (f _ s σ H _ I h) λd s1 ⟨H1,I1,q1⟩=>?_)
 cases d with
 |true=>exact j _ s1 σ H1 Q I1 q1
 |false=>exact hb _ s1 σ H1 Q I1 q1
def SqL(K:PySem.W.Frag)(H:Hp)(a:Addr)(xs:List V):Prop :=
 Rd H a (.lst xs) \/
  ∃(o:Obj) (d:Array Value) (n:Nat),K.lookup a=some o/\o.cls=.type "list"/\o.dict=none/\o.data=.seq d n/\d.size<=sizeLine/\aF xs d.toList
def SqT(K:PySem.W.Frag)(H:Hp)(a:Addr)(xs:List V):Prop :=
 Rd H a (.tup xs) \/
  ∃(o:Obj) (d:Array Value) (n:Nat),K.lookup a=some o/\o.cls=.type "tuple"/\o.data=.seq d n/\d.size<=sizeLine/\aF xs d.toList
def Qk:Value->Option V
 | .none=>some .non
 | .bool b=>some (.bl b)
 | .int i _=>some (.int i)
 | .str x _=>some (.str x)
 | .bytes b _=>some (.byt b)
 | .float b _=>some (.flt b)
 | .ref a=>some (.ref a)
 | .type n=>some (.ty n)
 | _=>none
def RelV.abs   (r:RelV x u):Qk u=some x:=by
 cases x with
 |non=>cases r;rfl
 |bl _=>cases r;rfl
 |int _=>obtain⟨t,rfl⟩:=r;rfl
 |str _=>obtain⟨t,rfl⟩:=r;rfl
 |byt _=>obtain⟨t,rfl⟩:=r;rfl
 |flt _=>obtain⟨t,rfl⟩:=r;rfl
 |ref _=>cases r;rfl
 |ty _=>cases r;rfl
def RelV.inj{x y:V}{u:Value}(r:RelV x u)(q:RelV y u):x=y:=zE (r.abs.symm.trans q.abs)
theorem aF.inj:∀{xs ys:List V}{us:List Value},aF xs us->aF ys us->xs=ys
 | _,_,_,.nil,.nil=>rfl
 | _,_,_,.cons r t,.cons r' t'=>by rw[r.inj r',aF.inj t t']
def Inv.list{σ:St}(I:Inv X t σ H s)(h:SqL X.K H a xs):∃d:List Value,aF xs d/\PlainL s.heap a d.toArray/\xs.length<=sizeLine:=by
 rcases h with h | ⟨o,d,n,f,j,hd,hs,m,r⟩
 ·obtain⟨z,d,n,r,e⟩:=h.ok I.hok;exact⟨d,r,⟨_,n,e,rfl,rfl,rfl⟩,z⟩
 ·refine⟨d.toList,r,⟨o,n,I.kIn a o f,j,hd,by simpa using hs⟩,?_⟩;have e:=r.length;simp only[Array.length_toList] at e;omega
def Inv.tuple{σ:St}(I:Inv X t σ H s)(h:SqT X.K H a xs):∃d:List Value,aF xs d/\IsTup s.heap a d.toArray/\xs.length<=sizeLine:=by
 rcases h with h | ⟨o,d,n,f,j,hs,m,r⟩
 ·obtain⟨z,d,r,p⟩:=h.ok I.hok;exact⟨d,r,p,z⟩
 ·refine⟨d.toList,r,⟨o,I.kIn a o f,j,n,by simpa using hs⟩,?_⟩;have e:=r.length;simp only[Array.length_toList] at e;omega
def Inv.list_inj{σ:St}(I:Inv X E σ H s)(h:SqL X.K H a xs)(h':SqL X.K H a ys):xs=ys:=by
 obtain⟨j,r,⟨o,n,e,_,_,d⟩,_⟩:=I.list h;obtain⟨f,u,⟨y,C,m,_,_,t⟩,_⟩:=I.list h';rw[e] at m;cases m;rw[d] at t
 injection t with x _
 have:j=f:=by simpa using congrArg Array.toList x
 subst this;exact r.inj u
def Inv.tuple_inj{σ:St}(I:Inv X E σ H s)(h:SqT X.K H a xs)(h':SqT X.K H a ys):xs=ys:=by
 obtain⟨j,r,⟨o,e,_,n,d⟩,_⟩:=I.tuple h;obtain⟨f,u,⟨y,m,_,C,t⟩,_⟩:=I.tuple h';rw[e] at m;cases m;rw[d] at t
 injection t with x _
 have:j=f:=by simpa using congrArg Array.toList x
 subst this;exact r.inj u
abbrev Cx.wish(X:Cx)(E:Value->Shared->Prop):Cx:={X with xe:=E}
abbrev Cx.nox(X:Cx):Cx:=X.wish λ_ _=>False
def Cx.Ok.wish{X:Cx}(ok:X.Ok)(E:Value->Shared->Prop):(X.wish E).Ok :=
 ⟨ok.mod,ok.kind,ok.glob,ok.blt,ok.above,ok.inj,ok.has,ok.cab,ok.hd,ok.frames,ok.stk,ok.exf,ok.bs,ok.bsz,ok.noex,ok.exfs,ok.funs,ok.frf⟩
def Cx.Ok.unwish{X:Cx}  (ok:(X.wish E).Ok):X.Ok :=
 ⟨ok.mod,ok.kind,ok.glob,ok.blt,ok.above,ok.inj,ok.has,ok.cab,ok.hd,ok.frames,ok.stk,ok.exf,ok.bs,ok.bsz,ok.noex,ok.exfs,ok.funs,ok.frf⟩
def Inv.wish{σ:St}(I:Inv X d σ H s)(E:Value->Shared->Prop):Inv (X.wish E) d σ H s:=⟨I.ok.wish E,I.os,I.bare,I.base,I.loc,I.cell,I.free,I.freeC,I.pin,I.hok,I.len⟩
def Inv.unwish{σ:St}(I:Inv (X.wish E) d σ H s):Inv X d σ H s:=⟨I.ok.unwish,I.os,I.bare,I.base,I.loc,I.cell,I.free,I.freeC,I.pin,I.hok,I.len⟩
def SP.unwish    (h:SP (X.wish E) pins D f s'):SP X pins D f s':=by
 cases f with
 |next=>obtain⟨d,j,I,q⟩:=h;exact⟨d,j,I.unwish,q⟩
 |brk=>obtain⟨d,j,I,q⟩:=h;exact⟨d,j,I.unwish,q⟩
 |cont=>obtain⟨d,j,I,q⟩:=h;exact⟨d,j,I.unwish,q⟩
 |ret u=>obtain⟨v,d,j,I,r,q⟩:=h;exact⟨v,d,j,I.unwish,r,q⟩
def PSs.nox{st:List Stmt}  (h:PSs X.nox st t):PSs X st t:=λpins s σ H D I hw =>
 zT (h pins s σ H D (I.wish _) hw) (λ_ _ q=>q.unwish) λ_ _ z=>False.elim z
def Ql:TS:=λD σ H=>D.nx σ H
def Qm(t u:TS):TS:=λD σ H=>t {D with nx:=u D} σ H
def Qn:PSs X [] Ql:=λ_ _ σ H _ I h=>wpAny_execs_nil ⟨σ,H,I,h⟩
def Qo{st:Stmt}{rest:List Stmt}(h1:PS X st t)(h2:PSs X rest u):PSs X (st::rest) (Qm t u):=by
 intro pins s σ H D I h;refine wpAny_execs_cons (thn (h1 _ s σ H _ I h) λf d q=>?_)
 cases f with
 |next =>
  obtain⟨x,m,j,q⟩:=q;exact h2 _ d _ m D j q
 | ret v
 | brk
 |cont=>exact q
def Qp{st:Stmt}(h1:PS X st t):PSs X [st] t:=by
 intro pins s σ H D I h;refine wpAny_execs_cons (thn (h1 _ s σ H D I h) λf d q=>?_)
 cases f with
 |next=>exact wpAny_execs_nil q
 | ret v
 | brk
 |cont=>exact q
def Inv.quiet  {σ:St}   (I:Inv X d σ H s):interactive X.env=false:=by simp[interactive,I.ok.kind]
def Qq(te:TE):TS:=λD σ H=>te σ H λ_ d=>D.nx σ d
def m9(d:PE X e te)(hs:swapsWith e none f.line X.env=pure false:=by rfl):PS X (.Expr e f) (Qq te):=by
 intro pins s σ H D I h;exact wpAny_Expr_any (thn (d _ s σ H _ I h) λv s1 ⟨x,H1,I1,r1,q1⟩=>⟨σ,H1,I1,q1⟩) I.quiet hs
def Qs(te:TE):TS:=λD σ H=>te σ H D.rt
def vR(d:PE X e te):PS X (.Return (some e) f) (Qs te):=by
 intro pins s σ H D I h;exact wpAny_Return_some (thn (d _ s σ H _ I h) λv s1 ⟨x,H1,I1,r1,q1⟩=>⟨x,σ,H1,I1,r1,q1⟩)
def Qt(c:TT)(t u:TS):TS:=λD σ H=>c σ H λb d=>if b=true then t D σ d else u D σ d
def Qu    (f:PT X c tc)(j:PSs X a t)(hb:PSs X b u):PS X (.If c a b pos) (Qt tc t u):=by
 intro pins s σ H D I h;refine wpAny_If (thn (f _ s σ H _ I h) λd s1 ⟨H1,I1,q1⟩=>?_)
 cases d with
 |true=>exact j _ s1 σ H1 D I1 q1
 |false=>exact hb _ s1 σ H1 D I1 q1
def Qv:TS:=λ_ _ _=>False
def Qw{st:Stmt}:PS X st Qv:=λ_ _ _ _ _ _ h=>h.elim
abbrev TG:=V->St->Hp->(St->Hp->Prop)->Prop
abbrev TGs:=List V->St->Hp->(St->Hp->Prop)->Prop
def PG(X:Cx)(target:Expr)(t:TG):Prop :=
 ∀(pins:List (Addr×Obj)) (s:Shared) (σ:St) (H:Hp) (v:V) (u:Value) (Q:St->Hp->Prop),Inv X pins σ H s->RelV v u->t v σ H Q ->
  wpAny (model X.prog X.w) X.A (assign target X.env u) (λ_ j=>∃d f,Inv X pins d f j/\Q d f) X.xe s
def PGs(X:Cx)(ts:List Expr)(t:TGs):Prop :=
 ∀(pins:List (Addr×Obj)) (s:Shared) (σ:St) (H:Hp) (f:List V) (j:List Value) (Q:St->Hp->Prop),Inv X pins σ H s->aF f j->t f σ H Q ->
  wpAny (model X.prog X.w) X.A (assignInOrder ((assignEach ts X.env).map (·.2)) j) (λ_ u=>∃d m,Inv X pins d m u/\Q d m) X.xe s
def pH(i:Nat):TG:=λv σ H Q=>Q (σ.set i (some v)) H
def Qx   (hN:X.N.Nodup)(d:X.N[i]?=some x)(hx:Loc X.env.scope x)(m:X.fn x=true\/X.env.scope.names.lookup x=some .local:=by first | exact .inl rfl | exact .inr rfl | assumption):PG X (.Name x pos) (pH i):=by
 intro pins s σ H v u Q I r h;exact wpAny_assign_Name (vP I hN d hx r λj f=>⟨_,H,f,h⟩)
def Qy:TGs:=λd σ H Q=>d=[]/\Q σ H
def Qz(t:TG)(u:TGs):TGs:=λf σ H Q=>∃v r,f=v::r/\t v σ H λd j=>u r d j Q
def QB:PGs X [] Qy:=by
 intro pins s σ H d f Q I r h;obtain⟨e,h⟩:=h;exact assignInOrder_nil ⟨σ,H,I,h⟩
def QC     (h1:PG X e t)(h2:PGs X es u)
  (hs:(assignEach (e::es) X.env).map (·.2)=assign e X.env::(assignEach es X.env).map (·.2):=by rfl):PGs X (e::es) (Qz t u):=by
 intro pins s σ H f m Q I r h;obtain⟨v,j,d,h⟩:=h;subst d
 cases r with
 |cons r rr =>
  rw[hs];refine assignInOrder_cons (thn (h1 _ s σ H _ _ _ I r h) λ_ s1 ⟨σ1,H1,I1,q1⟩=>?_);exact h2 _ s1 _ H1 _ _ Q I1 rr q1
def QD(K:PySem.W.Frag)(n:Nat)(t:TGs):TG:=λv σ H Q=>∃a d,v=.ref a/\SqT K H a d/\d.length=n/\t d σ H Q
def QF{f:Pos}  {k:Nat}   (G:X.calm=true)(h:PGs X es t)
  (E:(assignEach es X.env).length=n:=by rfl) (j:(assignEach es X.env).findIdx? (·.1)=none:=by rfl):PG X (.Tuple es k f) (QD X.K n t):=by
 intro pins s σ H v u Q I r d;obtain⟨a,m,J,C,F,d⟩:=d;subst J;cases r;obtain⟨O,x,y,P⟩:=I.tuple C
 refine assign_Tuple_tuple (I.ok.hd G) y (by simp[E,<-F,x.length]) j λR hx=>?_
 have L :=I.kept (t':=s.toks) λb o e=>hx b o (zp (zl e)) e
 exact h _ _ σ H m _ Q L (by simpa ) d
def pI(te:TE)(g:TG):TS:=λD σ H=>te σ H λx d=>g x σ d D.nx
def QG{d:Pos}    (m:PE X e te)(j:PG X u g)(hs:swapsWithSole [u] e d.line X.env=pure false:=by rfl)(f:swappedStores [u] e X.env=pure none:=by rfl)
  (h1:(assignEach [u] X.env).map (·.2)=[assign u X.env]:=by rfl):PS X (.Assign [u] e d) (pI te g):=by
 intro pins s σ H D I h;refine wpAny_Assign_stores (thn (m _ s σ H _ I h) λv s1 ⟨x,H1,I1,r1,q1⟩=>?_) hs f;rw[h1]
 exact thn (j _ s1 σ H1 x v _ I1 r1 q1) λ_ t q=>q
def CT{d:Pos}      (hN:X.N.Nodup)(f:X.N[i]?=some x)(hx:Loc X.env.scope x)(m:PE X e te)(hs:swapsWith e (some (.Name x C)) d.line X.env=pure false:=by rfl)(j:X.fn x=true\/X.env.scope.names.lookup x=some .local:=by first | exact .inl rfl | exact .inr rfl | assumption):
  PS X (.Assign [.Name x C] e d) (pI te (pH i)):=by
 intro pins s σ H D I h;refine wpAny_Assign_Name (thn (m pins s σ H _ I h) λv s1 ⟨y,H1,I1,r1,q1⟩=>?_) hs;exact vP I1 hN f hx r1 (λu t=>⟨_,H1,t,q1⟩) j
def CV(c:TT)(u:TS):TS:=λD σ H=>∃W:Nat->St->Hp->Prop,(∃m,W m σ H)/\∀m σ H,W m σ H ->
 c σ H λb j=>if b=true then ∃N:St->Hp->Prop,(∀d t,N d t->∃f,f<m/\W f d t)/\u {D with nx:=N,ct:=N,bk:=D.nx} σ j else D.nx σ j
def QH     (u:PassesOwn (model X.prog X.w) X.A X.env X.xe)(P:PT X c tc)(hb:PSs X body tb):PS X (.While c body [] pos) (CV tc tb):=by
 intro pins s σ H D I h;obtain⟨W,⟨J,E⟩,turn⟩:=h;refine wpAny_While (codeAny_whileLoop (λn F=>∃d y,Inv X _ d y F/\W n d y) ?_ J ⟨σ,H,I,E⟩);rintro n s1 ⟨σ1,H1,I1,w1⟩;refine wpAny_passesOwn u (thn (P _ s1 _ H1 _ I1 (turn n _ H1 w1)) λb s2 ⟨H2,I2,j⟩=>?_)
 cases b with
 |true =>
  obtain⟨N,hN,j⟩:=j;refine wpAny_passesOwn u (thn (hb _ s2 _ H2 _ I2 j) λf R t=>?_)
  cases f with
  | next
  |cont =>
   obtain⟨m,x,Q,G⟩:=t;obtain⟨L,O,C⟩:=hN _ x G;exact⟨L,O,m,x,Q,C⟩
  | brk
  |ret v=>exact t
 |false =>
  exact wpAny_execs_nil ⟨σ1,H2,I2,j⟩
structure It where
 go:Nat->Hp->Prop
 yld:Nat->Hp->V->Hp->Prop
 stop:Nat->Hp->Prop
def fB(X:Cx)(pins:List (Addr×Obj))(H:Hp)(b:Addr):Prop :=
 H b=none/\b≠X.env.locals/\b∉X.fs/\(b∈X.ex\/X.s₀.heap.objs.size<=b)/\(∀x c,X.env.cells.lookup x=some c->c≠b)/\∀p∈X.pn++pins,p.1≠b
def Inv.fpOk   {σ:St}   {b:Addr}(I:Inv X j σ H s)(hb:s.heap.objs.size<=b)(f:m b=none):fB X j m b:=by
 refine⟨f,Nat.ne_of_gt (zK I.lt hb),I.nofs hb,.inr (zN I.sz hb),λx c e z=>?_,λp d z=>?_⟩
 ·obtain⟨v,q⟩:=I.cell x c e;exact absurd (zK q.lt (by rw[z];exact hb)) (zV _)
 ·exact absurd (zK (zl (I.pin p d).1) (by rw[z];exact hb)) (zV _)
structure Turn(P:Program)(w:World)(K:PySem.W.Frag)(tg:Expr)(J:It)(fp:List Addr)(it:Addr)(tn:Nat->Heap->Prop):Prop where
 mem:it∈fp
 obj:∀i h,tn i h->∀b∈fp,∃o,h.get? b=some o/\∀v,o.data≠.cell v
 keep:∀i h h',tn i h->(∀b∈fp,∀o,h.get? b=some o->h'.get? b=some o)->tn i h'
 item:∀(X:Cx),X.prog=P->X.w=w->X.K=K->X.calm=true->∀(i:Nat) (pins:List (Addr×Obj)) (s:Shared) (σ:St) (H:Hp) (E:Value->Shared->Prop),Inv X pins σ H s->(∀b∈fp,fB X pins H b)->tn i s.heap->J.go i H ->
  wpAny (model P w) X.A (pyNext (.ref it)) (λr s1=>∃u,r=some u /\
   wpAny (model P w) X.A (letOwnedTupleGo tg (.ref it) u) (λ_ s2=>∃x H',Inv X pins σ H' s2/\RelV x u/\J.yld i H x H'/\tn (i+1) s2.heap/\∀b∈fp,H' b=none) E s1) E s
 done:∀(X:Cx),X.prog=P->X.w=w->X.K=K->X.calm=true->∀(i:Nat) (pins:List (Addr×Obj)) (s:Shared) (σ:St) (H:Hp) (E:Value->Shared->Prop),Inv X pins σ H s->(∀b∈fp,fB X pins H b)->tn i s.heap->J.stop i H ->
  wpAny (model P w) X.A (pyNext (.ref it)) (λr s1=>r=none/\Inv X pins σ H s1) E s
 self:∀(A:Around) (i:Nat) (s:Shared) (Q:Value->Shared->Prop) (E:Value->Shared->Prop),tn i s.heap->Q (.ref it) s->wpAny (model P w) A (pyIter (.ref it)) Q E s
abbrev TI:=St->Hp->(It->Hp->Prop)->Prop
def PIE(X:Cx)(pins:List (Addr×Obj))(σ:St)(t:Expr)(R:It->Hp->Prop)(f:Value)(m:Shared):Prop :=
 ∃(it:Addr) (fp:List Addr) (j:Nat->Heap->Prop) (J:It) (d:Hp),f=.ref it/\Inv X pins σ d m/\Turn X.prog X.w X.K t J fp it j/\j 0 m.heap/\(∀b∈fp,fB X pins d b)/\R J d
def PI(X:Cx)(f iter:Expr)(d:TI):Prop :=
 ∀(pins:List (Addr×Obj)) (s:Shared) (σ:St) (H:Hp) (R:It->Hp->Prop),Inv X pins σ H s->d σ H R ->
  wpAny (model X.prog X.w) X.A (eval iter X.env) (λv j=>wpAny (model X.prog X.w) X.A (pyIter v) (PIE X pins σ f R) X.xe j) X.xe s
def nj            (f:s.heap.get? it=some o)(m:o.cls=.type n)(hd:o.data=.fields vs)
  (j:["enumerate","zip","dict_itemiterator","dict_reverseitemiterator","odict_iterator","itertools.zip_longest","itertools.pairwise"].contains n=false) (d:Q () s):wpAny M A (letOwnedTupleGo t (.ref it) u) Q E s:=by
 unfold letOwnedTupleGo
 cases t<;>first
  | exact zb d
  | (cases u<;>first
    | exact zb d
    | (refine za (wpAny_load f ?_)
       rw[m,hd];show wpAny M A (if(["enumerate","zip","dict_itemiterator","dict_reverseitemiterator","odict_iterator","itertools.zip_longest","itertools.pairwise"].contains n&&vs[0]? == some (rawInt _))=true then _ else _) Q E s;rw[if_neg (by intro h;rw[j,Bool.false_and] at h;cases h)]
       exact zb d))
noncomputable def Itl(K:PySem.W.Frag)(a:Addr):It :=
 ⟨λi H=>∃d x,SqL K H a d/\d[i]?=some x,λi H x f=>f=H/\∀d,SqL K H a d->d[i]?=some x,λi H=>∃d,SqL K H a d/\d.length<=i⟩
noncomputable def Itt(K:PySem.W.Frag)(a:Addr):It :=
 ⟨λi H=>∃d x,SqT K H a d/\d[i]?=some x,λi H x f=>f=H/\∀d,SqT K H a d->d[i]?=some x,λi H=>∃d,SqT K H a d/\d.length<=i⟩
noncomputable def Itr(lo:Int)(n:Nat):It:=⟨λi _=>i<n,λi H x d=>d=H/\x=.int (lo+i),λi _=>n<=i⟩
def QJ   {K:PySem.W.Frag}  (a it:Addr):Turn P w K tg (Itl K a) [it] it (λi h=>h.IsListIter it a i) where
 mem:=by simp
 obj:=λi h st b hb=>by
  have e:b=it:=by simpa using hb
  subst e;obtain⟨o,e,c,d⟩:=st;exact⟨o,e,λv z=>by rw[d] at z;cases z⟩
 keep:=λi h h' st k=>st.at λo e=>k it (by simp) o e
 item:=by
  intro X hP hw hK hc i pins s σ H E I hf st hg;subst hP hw hK;obtain⟨xs,x,hq,hx⟩:=hg;obtain⟨its,rv,p,hz⟩:=I.list hq;obtain⟨u,hu,ru⟩:=rv.get hx;obtain⟨f0,f1,f2,f3,f4,f5⟩:=hf it (by simp)
  refine wpAny_pyNext_list_item st p.isList (x:=u) (by simpa using hu) λh' st' sb=>?_
  have I1:Inv X pins σ H {s with heap:=h'}:=I.turned (t':=s.toks) (λb o hb e=>(sb.2 b hb).trans e) f0 f1 f3 f4 f5;obtain⟨o,e,c,d⟩:=id st';exact⟨u,rfl,nj (s:={s with heap:=h'}) e c d (by decide) ⟨x,H,I1,ru,⟨rfl,λys hy=>by rw[I.list_inj hy hq];exact hx⟩,st',λb hb=>(hf b hb).1⟩⟩
 done:=by
  intro X hP hw hK hc i pins s σ H E I hf st hg;subst hP hw hK;obtain⟨xs,hq,hx⟩:=hg;obtain⟨its,rv,p,hz⟩:=I.list hq;obtain⟨f0,f1,f2,f3,f4,f5⟩:=hf it (by simp);have hl:=rv.length
  exact wpAny_pyNext_list_end (I.ok.hd hc) st p.isList (by simp;omega) λh' eb=>⟨rfl,I.turned (t':=s.toks) (λb o hb e=>eb b o hb e) f0 f1 f3 f4 f5⟩
 self:=λ_ _ _ _ _ st h=>wpAny_pyIter_listiter st h
def QK   {K:PySem.W.Frag}  (a it:Addr):Turn P w K tg (Itt K a) [it] it (λi h=>h.IsTupleIter it a i) where
 mem:=by simp
 obj:=λi h st b hb=>by
  have e:b=it:=by simpa using hb
  subst e;obtain⟨o,e,c,d⟩:=st;exact⟨o,e,λv z=>by rw[d] at z;cases z⟩
 keep:=λi h h' st k=>st.at λo e=>k it (by simp) o e
 item:=by
  intro X hP hw hK hc i pins s σ H E I hf st hg;subst hP hw hK;obtain⟨xs,x,hq,hx⟩:=hg;obtain⟨its,rv,p,hz⟩:=I.tuple hq;obtain⟨u,hu,ru⟩:=rv.get hx;obtain⟨f0,f1,f2,f3,f4,f5⟩:=hf it (by simp)
  refine wpAny_pyNext_tuple_item st (show s.heap.IsTuple a its.toArray from p) (x:=u) (by simpa using hu) λh' st' sb=>?_
  have I1:Inv X pins σ H {s with heap:=h'}:=I.turned (t':=s.toks) (λb o hb e=>(sb.2 b hb).trans e) f0 f1 f3 f4 f5;obtain⟨o,e,c,d⟩:=id st';exact⟨u,rfl,nj (s:={s with heap:=h'}) e c d (by decide) ⟨x,H,I1,ru,⟨rfl,λys hy=>by rw[I.tuple_inj hy hq];exact hx⟩,st',λb hb=>(hf b hb).1⟩⟩
 done:=by
  intro X hP hw hK hc i pins s σ H E I hf st hg;subst hP hw hK;obtain⟨xs,hq,hx⟩:=hg;obtain⟨its,rv,p,hz⟩:=I.tuple hq;obtain⟨f0,f1,f2,f3,f4,f5⟩:=hf it (by simp);have hl:=rv.length
  exact wpAny_pyNext_tuple_end (I.ok.hd hc) st (show s.heap.IsTuple a its.toArray from p) (by simp;omega) λh' eb=>⟨rfl,I.turned (t':=s.toks) (λb o hb e=>eb b o hb e) f0 f1 f3 f4 f5⟩
 self:=λ_ _ _ _ _ st h=>wpAny_pyIter_tupleiter st h
def QL   {K:PySem.W.Frag}  (it:Addr)(lo:Int)(n:Nat):Turn P w K tg (Itr lo n) [it] it (λi h=>IsRangeIter h it (lo+(i:Nat) * 1) ((n:Int) - (i:Nat)) 1) where
 mem:=by simp
 obj:=λi h st b hb=>by
  have e:b=it:=by simpa using hb
  subst e
  exact⟨_,st,λv z=>by
   have z':Data.fields _=Data.cell v:=z
   cases z'⟩
 keep:=λi h h' st k=>k it (by simp) _ st
 item:=by
  intro X hP hw hK hc i pins s σ H E I hf st hg;subst hP hw hK;obtain⟨f0,f1,f2,f3,f4,f5⟩:=hf it (by simp);have W:=Walks.range (prog:=X.prog) (w:=X.w) (I.ok.hd hc) it lo 1 n
  refine W.item i s _ _ hg st λv h' tk hv st' kk=>?_
  obtain⟨t,rfl⟩:=hv;have I1:Inv X pins σ H {s with heap:=h',toks:=tk}:=I.turned (λb o hb e=>kk b o (by simpa using hb) e) f0 f1 f3 f4 f5;refine⟨_,rfl,nj (s:={s with heap:=h',toks:=tk}) (n:="range_iterator") st' rfl rfl (by decide) ⟨.int (lo+i),H,I1,⟨t,?_⟩,⟨rfl,rfl⟩,st',λb hb=>(hf b hb).1⟩⟩;rw[Int.mul_one]
 done:=by
  intro X hP hw hK hc i pins s σ H E I hf st hg;subst hP hw hK;obtain⟨f0,f1,f2,f3,f4,f5⟩:=hf it (by simp)
  exact wpAny_pyNext_range_end (I.ok.hd hc) st (by have:n<=i:=hg;omega) λh' eb=>⟨rfl,I.turned (t':=s.toks) (λb o hb e=>eb b o hb e) f0 f1 f3 f4 f5⟩
 self:=λ_ _ _ _ _ st h=>wpAny_pyIter_rangeiter st h
def CW(K:PySem.W.Frag)(tl:TE):TI:=λσ H R=>tl σ H λx d=>∃a,x=.ref a/\(∃f,SqL K d a f)/\R (Itl K a) d
def QM(K:PySem.W.Frag)(tl:TE):TI:=λσ H R=>tl σ H λx d=>∃a,x=.ref a/\(∃f,SqT K d a f)/\R (Itt K a) d
def vU   (f:PE X l tl):PI X C l (CW X.K tl):=by
 intro pins s σ H R I h
 refine thn (f _ s σ H _ I h) λv s1 ⟨x,H1,I1,r1,q1⟩=>?_
 obtain⟨a,e,⟨t,d⟩,q⟩:=q1;subst e;cases r1;obtain⟨m,u,p,y⟩:=I1.list d;refine wpAny_pyIter_list p.isList ?_;refine⟨s1.heap.objs.size,[s1.heap.objs.size],_,_,H1,rfl,I1.kept λb o e=>zo _ e,QJ a _,⟨_,zy _ rfl,rfl,rfl⟩,λb j=>?_,q⟩
 have e :=by simpa using j
 subst e;exact I1.fpOk (zc _) (I1.hok.fresh (zc _))
def QQ   (f:PE X l tl):PI X C l (QM X.K tl):=by
 intro pins s σ H R I h
 refine thn (f _ s σ H _ I h) λv s1 ⟨x,H1,I1,r1,q1⟩=>?_
 obtain⟨a,e,⟨t,d⟩,q⟩:=q1;subst e;cases r1;obtain⟨m,u,p,y⟩:=I1.tuple d;refine wpAny_pyIter_tuple (p) ?_;refine⟨s1.heap.objs.size,[s1.heap.objs.size],_,_,H1,rfl,I1.kept λb o e=>zo _ e,QK a _,⟨_,zy _ rfl,rfl,rfl⟩,λb j=>?_,q⟩
 have e :=by simpa using j
 subst e;exact I1.fpOk (zc _) (I1.hok.fresh (zc _))
def QR  {σ:St}     {lo:Int}   (I:Inv X y σ H s)(h1:-(2 ^ 62)<=lo)(h2:lo<2 ^ 62)(h3:-(2 ^ 62)<=x)(h4:x<2 ^ 62)
  (q:R (Itr lo (x - lo).toNat) H):wpAny (model X.prog X.w) X.A (pyIter (.ref s.heap.objs.size)) (PIE X y σ C R) E {s with heap:=s.heap.push {cls:=.type "range",data:=.fields #[.int lo t,.int x u,.int 1 v]},toks:=tk}:=by
 refine wpAny_pyIter_range (IsRange.new ..) (small_one h1 h2 h3 h4) ?_
 have d:Inv X y σ H {s with heap:=s.heap.push {cls:=.type "range",data:=.fields #[.int lo t,.int x u,.int 1 v]},toks:=tk}:=I.kept λb o e=>zo _ e
 refine⟨(s.heap.push {cls:=.type "range",data:=.fields #[.int lo t,.int x u,.int 1 v]}).objs.size,[(s.heap.push {cls:=.type "range",data:=.fields #[.int lo t,.int x u,.int 1 v]}).objs.size],_,_,H,rfl,
  d.kept (t':=tk) λb o e=>zo _ e,QL _ lo (x - lo).toNat,?_,λb f=>?_,q⟩
 ·have m:lo+((0:Nat):Int) * 1=lo:=by simp
  have j:(((x - lo).toNat:Nat):Int) - ((0:Nat):Int)=Builtin.Range.rangeSize lo x 1:=by rw[rangeSize_one];split<;>omega
  show IsRangeIter _ _ (lo+((0:Nat):Int) * 1) ((((x - lo).toNat:Nat):Int) - ((0:Nat):Int)) 1;rw[m,j];exact zy _ rfl
 ·have e:b=(s.heap.push {cls:=.type "range",data:=.fields #[.int lo t,.int x u,.int 1 v]}).objs.size:=by simpa using f
  subst e;exact d.fpOk (zc _) (d.hok.fresh (zc _))
def QS(f:TA):TI:=λσ H R=>f σ H λd m=>∃j:Int,d=[.int j]/\-(2 ^ 62)<=j/\j<2 ^ 62/\R (Itr 0 j.toNat) m
def QT    (u:Gl X "range")(m:X.mg "range" = none)(x:PA X [a] ta)(hs:starEach [a] X.env=[(false,eval a X.env)]:=by rfl):PI X tg (.Call (.Name "range" p) [a] [] pos) (QS ta):=by
 intro pins s σ H R I h;refine Call_ (jZ I u m boot_range (PyProof.Rows.callWith_type1 (thn (x _ _ s σ H _ I h) λus s1 ⟨vs,H1,I1,r1,d⟩=>?_) hs));obtain⟨j,e,d,f,q⟩:=d;subst e
 cases r1 with
 |cons r rr =>
  cases rr;obtain⟨t,rfl⟩:=r;exact call_range_1 (QR I1 (by omega) (by omega) d f (by simpa ))
def CZ(u:TI)(g:TG)(y:TS):TS:=λD σ H=>u σ H λJ E=>∃W:Nat->Nat->St->Hp->Prop,(∃m,W 0 m σ E)/\∀i m σ H,W i m σ H ->
 (J.stop i H/\D.nx σ H)\/(J.go i H/\∃N:St->Hp->Prop,(∀f d,N f d->∃t,t<m/\W (i+1) t f d)/\∀x d,J.yld i H x d->g x σ d λj C=>y {D with nx:=N,ct:=N,bk:=D.nx} j C)
def pJ(fp:List Addr)(h:Heap):List (Addr×Obj):=fp.filterMap λb=>(h.get? b).map λo=>(b,o)
def rN     (hb:b∈fp)(e:h.get? b=some o):(b,o)∈pJ fp h:=List.mem_filterMap.mpr ⟨b,hb,by rw[e];rfl⟩
def QV    (d:p∈pJ fp h):p.1∈fp/\h.get? p.1=some p.2:=by
 obtain⟨b,f,e⟩:=List.mem_filterMap.mp d
 cases q:h.get? b with
 |none=>rw[q] at e;cases e
 |some o =>
  rw[q] at e;have e' :=zE e;subst e';exact⟨f,q⟩
def Inv.pinned  {σ:St}    (I:Inv X C σ H s)(u:∀b∈fp,fB X C H b)(t:∀b∈fp,∃o,s.heap.get? b=some o/\∀v,o.data≠.cell v):Inv X (C++pJ fp s.heap) σ H s :=
 I.pins_of λp m=>(zx.mp m).elim (λz=>I.pin p (zH _ z)) λz=>by
  obtain⟨f,e⟩:=QV z;obtain⟨f0,y,x,_⟩:=u p.1 f;obtain⟨o,j,d⟩:=t p.1 f;rw[e] at j;cases j;exact⟨e,f0,y,x,d⟩
def Inv.unpinned  {σ:St}   (I:Inv X (f++pl) σ H s):Inv X f σ H s:=I.pins_of λp d=>I.pin p (zH _ (zZ _ d))
def QW       (P:PassesOwn (model X.prog X.w) X.A X.env X.xe)(hc:X.calm=true)(hi:PI X tg iter wi)(hg:PG X tg g)(hb:PSs X body tb)
  (hs:∀x,foldedSetIterable iter X.env x=pure x:=by intro _;rfl):PS X (.For tg iter body [] pos) (CZ wi g tb):=by
 intro pins s σ H D I h;refine wpAny_For (thn (hi pins s σ H _ I h) λv s1 h1=>thn h1 λitv s2 h2=>?_) hs;obtain⟨it,fp,tn,J,H2,e,I2,T,st2,f2,W,⟨m0,w0⟩,turn⟩:=h2;subst e
 have F:∀{G:Hp},(∀b∈fp,G b=none)->∀b∈fp,fB X pins G b:=λhn b hb=>⟨hn b hb,(f2 b hb).2⟩
 refine codeAny_forLoop_any (λn s'=>∃i E G,Inv X pins E G s'/\tn i s'.heap/\(∀b∈fp,G b=none)/\W i n E G) ?_ m0 ⟨0,σ,H2,I2,st2,λb hb=>(f2 b hb).1,w0⟩;rintro n s3 ⟨i,C,U,I3,Q,R,w3⟩
 rcases turn i n C U w3 with⟨stop,qn⟩ | ⟨go,N,hN,step⟩
 ·refine wpAny_passesOwn P (thn (T.done X rfl rfl rfl hc i pins s3 C U X.xe I3 (F R) Q stop) λr s4 ⟨Z,I4⟩=>?_);subst Z;exact wpAny_execs_nil ⟨C,U,I4,qn⟩
 ·refine wpAny_passesOwn P (thn (T.item X rfl rfl rfl hc i pins s3 C U X.xe I3 (F R) Q go) λr s4 ⟨u,Z,h4⟩=>?_);subst Z;refine wpAny_passesOwn P (thn h4 λ_ s5 ⟨x,H5,I5,r5,y5,st5,fr5⟩=>?_);have I5':=I5.pinned (F fr5) (T.obj _ _ st5);refine wpAny_passesOwn P (thn (hg _ s5 C H5 x u _ I5' r5 (step x H5 y5)) λ_ s6 ⟨σ6,H6,I6,q6⟩=>?_);refine wpAny_passesOwn P (thn (hb _ s6 σ6 H6 _ I6 q6) λf Y L=>?_)
  have again:∀{j:St}{y:Hp},Inv X (pins++pJ fp s5.heap) j y Y->N j y->∃m,m<n/\∃i E G,Inv X pins E G Y/\tn i Y.heap/\(∀b∈fp,G b=none)/\W i m E G:=λ{j y} t O=>by
   obtain⟨m',hm,w7⟩:=hN j y O;refine⟨m',hm,i+1,j,y,t.unpinned,T.keep _ _ _ st5 λb hb o e=>(t.pin (b,o) (zH _ (zH _ (rN hb e)))).1,λb hb=>?_,w7⟩;obtain⟨o,e,d⟩:=T.obj _ _ st5 b hb;exact(t.pin (b,o) (zH _ (zH _ (rN hb e)))).2.1
  cases f with
  |next=>obtain⟨j,y,t,O⟩:=L;exact again t O
  |cont=>obtain⟨j,y,t,O⟩:=L;exact again t O
  |brk=>obtain⟨j,y,t,L⟩:=L;exact⟨j,y,t.unpinned,L⟩
  |ret v=>obtain⟨x7,j,y,t,r7,L⟩:=L;exact⟨x7,j,y,t.unpinned,r7,L⟩
abbrev R2:=V->V->Hp->VK->Prop
def OpR(X:Cx)(f:Value->Value->Sem Value)(r:R2):Prop :=
 ∀(pins:List (Addr×Obj)) (s:Shared) (σ:St) (H:Hp) (x y:V) (v u:Value) (Q:VK),Inv X pins σ H s->RelV x v->RelV y u->r x y H Q ->
  wpAny (model X.prog X.w) X.A (f v u) (EP X pins σ Q) X.xe s
def UnR(X:Cx)(f:Value->Sem Value)(r:V->Hp->VK->Prop):Prop :=
 ∀(pins:List (Addr×Obj)) (s:Shared) (σ:St) (H:Hp) (x:V) (v:Value) (Q:VK),Inv X pins σ H s->RelV x v->r x H Q ->
  wpAny (model X.prog X.w) X.A (f v) (EP X pins σ Q) X.xe s
def cZ(X:Cx)(f:Value)(r:List V->Hp->VK->Prop):Prop :=
 ∀(pins:List (Addr×Obj)) (s:Shared) (σ:St) (H:Hp) (d:List V) (j:List Value) (Q:VK),Inv X pins σ H s->aF d j->r d H Q ->
  wpAny (model X.prog X.w) X.A (call f j) (EP X pins σ Q) X.xe s
def QX(X:Cx)(r:V->Hp->(Bool->Hp->Prop)->Prop):Prop :=
 ∀(pins:List (Addr×Obj)) (s:Shared) (σ:St) (H:Hp) (x:V) (v:Value) (Q:Bool->Hp->Prop),Inv X pins σ H s->RelV x v->r x H Q ->
  wpAny (model X.prog X.w) X.A (truthy v) (TP X pins σ Q) X.xe s
def tOp(r:R2)(f d:TE):TE:=λσ H Q=>f σ H λx m=>d σ m λy j=>r x y j Q
def tUn(r:V->Hp->VK->Prop)(d:TE):TE:=λσ H Q=>d σ H λx f=>r x f Q
def rI(C:Int->Int->Prop)(g:Int->Int->V):R2:=λx y H Q=>∃i j,x=.int i/\y=.int j/\C i j/\Q (g i j) H
def rI0(g:Int->Int->V):R2:=λx y H Q=>∃i j,x=.int i/\y=.int j/\Q (g i j) H
def rU(g:Int->V):V->Hp->VK->Prop:=λx H Q=>∃i,x=.int i/\Q (g i) H
def vV(F:PE X a L)(hb:PE X b J)   {σ:St}  {R:V->V->Hp->Prop}(I:Inv X G σ H s)
  (h:L σ H λx C=>J σ C λy d=>R x y d)  {f:Value->Value->Sem Value}
  (E:∀v u t x y d,Inv X G σ d t->RelV x v->RelV y u->R x y d->wpAny (model X.prog X.w) X.A (f v u) Q X.xe t):
  wpAny (model X.prog X.w) X.A (eval a X.env) (λv m=>wpAny (model X.prog X.w) X.A (eval b X.env) (λu j=>wpAny (model X.prog X.w) X.A (f v u) Q X.xe j) X.xe m) X.xe s:=by
 refine thn (F _ s σ H _ I h) λv s1 ⟨x,C,I1,r1,q1⟩=>?_
 refine thn (hb _ s1 σ C _ I1 q1) λu t ⟨y,d,I2,r2,q2⟩=>?_
 exact E v u t x y d I2 r1 r2 q2
def QZ   (m:OpR X (binaryOp op) r)(t:PE X a G)(hb:PE X b F):PE X (.BinOp a op b J) (tOp r G F):=by
 intro pins s σ H Q I h;exact wpAny_BinOp (vV t hb I h λv u d x y E C j f q=>m _ d σ E x y v u Q C j f q)
def Q0   (d:UnR X (unaryOp op) r)(f:PE X a j):PE X (.UnaryOp op a m) (tUn r j):=by
 intro pins s σ H Q I h;exact UnaryOp_ (thn (f _ s σ H _ I h) λv s1 ⟨x,H1,I1,r1,q1⟩=>d _ s1 σ H1 x v Q I1 r1 q1)
def opI   {g:Int->Int->Int}
  (rule:∀(i j:Int) (t u:Tok) (s:Shared) (Q:Value->Shared->Prop) (E:Value->Shared->Prop),C i j->Q (.int (g i j) s.toks) {s with toks:=s.toks+1}->wpAny (model X.prog X.w) X.A (f (.int i t) (.int j u)) Q E s):
  OpR X f (rI C λi j=>.int (g i j)):=by
 intro pins s σ H x y v u Q I F m h;obtain⟨i,j,rfl,rfl,G,q⟩:=h;obtain⟨t,rfl⟩:=F;obtain⟨d,rfl⟩:=m;exact rule i j t d s _ _ G ⟨.int _,H,I.tok _,⟨_,rfl⟩,q⟩
def Dc  {g:Int->Int->Int}
  (rule:∀(i j:Int) (t u:Tok) (s:Shared) (Q:Value->Shared->Prop) (E:Value->Shared->Prop),Q (.int (g i j) s.toks) {s with toks:=s.toks+1}->wpAny (model X.prog X.w) X.A (f (.int i t) (.int j u)) Q E s):
  OpR X f (rI0 λi j=>.int (g i j)):=by
 intro pins s σ H x y v u Q I C m h;obtain⟨i,j,rfl,rfl,q⟩:=h;obtain⟨t,rfl⟩:=C;obtain⟨d,rfl⟩:=m;exact rule i j t d s _ _ ⟨.int _,H,I.tok _,⟨_,rfl⟩,q⟩
def vW  {g:Int->Int->Bool}
  (rule:∀(i j:Int) (t u:Tok) (s:Shared) (Q:Value->Shared->Prop) (E:Value->Shared->Prop),Q (.bool (g i j)) s->wpAny (model X.prog X.w) X.A (f (.int i t) (.int j u)) Q E s):
  OpR X f (rI0 λi j=>.bl (g i j)):=by
 intro pins s σ H x y v u Q I C m h;obtain⟨i,j,rfl,rfl,q⟩:=h;obtain⟨t,rfl⟩:=C;obtain⟨d,rfl⟩:=m;exact rule i j t d s _ _ ⟨.bl _,H,I,rfl,q⟩
def Q3(i j:Int):Prop:=0<j/\j<1073741824
def Q4(i j:Int):Prop:=0<=j/\j<=1000000/\i.natAbs<2 ^ 64
def vX(i j:Int):Prop:=(-(2 ^ 64)<i/\i<2 ^ 64)\/(-(2 ^ 64)<j/\j<2 ^ 64)
def vX.ok  (h:vX i j):IntMulOk i j:=by
 rcases h with⟨h1,h2⟩ | ⟨h1,h2⟩
 ·exact .of_left (intBits_le_64 h1 h2)
 ·exact .of_right (intBits_le_64 h1 h2)
def Q5:OpR X (binaryOp .Add) (rI0 λi j=>.int (i+j)):=Dc λ_ _ _ _ _ _ _ q=>add_int q
def Q6:OpR X (binaryOp .Sub) (rI0 λi j=>.int (i - j)):=Dc λ_ _ _ _ _ _ _ q=>sub_int q
def Q7:OpR X (binaryOp .Mult) (rI vX λi j=>.int (i * j)):=opI λ_ _ _ _ _ _ _ d q=>mul_int q d.ok
def Q8:OpR X (binaryOp .FloorDiv) (rI Q3 λi j=>.int (i / j)):=opI λi j _ _ _ _ _ d q=>by
 have h1:(0:Int)<j:=d.1;have h2:j<1073741824:=d.2;exact floordiv_int (by omega) (by rw[Int.fdiv_eq_ediv_of_nonneg i (by omega)];exact q) (.inl (PyProof.noPylong_small (by omega)))
def Q9:OpR X (binaryOp .Mod) (rI (λ_ j=>0<j) λi j=>.int (i % j)):=opI λi j _ _ _ _ _ d q=>by
 have h1:(0:Int)<j:=d;exact mod_int' (by omega) (by rw[Int.fmod_eq_emod_of_nonneg i (by omega)];exact q)
def Ra:OpR X (binaryOp .Pow) (rI Q4 λi j=>.int (i ^ j.toNat)):=opI λ_ _ _ _ _ _ _ d q=>pow_int_small d.1 d.2.1 d.2.2 q
def unI  {g:Int->Int}
  (rule:∀(i:Int) (t:Tok) (s:Shared) (Q:Value->Shared->Prop) (E:Value->Shared->Prop),Q (.int (g i) s.toks) {s with toks:=s.toks+1}->wpAny (model X.prog X.w) X.A (f (.int i t)) Q E s):
  UnR X f (rU λi=>.int (g i)):=by
 intro pins s σ H x v Q I d h;obtain⟨i,rfl,q⟩:=h;obtain⟨t,rfl⟩:=d;exact rule i t s _ _ ⟨.int _,H,I.tok _,⟨_,rfl⟩,q⟩
def Rb:UnR X (unaryOp .USub) (rU λi=>.int (-i)):=unI λ_ _ _ _ _ q=>neg_int q
def Rc:OpR X (binaryOp .Add) (λx y H Q=>∃i k,x=.int i/\y=.bl k/\Q (.int (i+b2i k)) H):=by
 intro pins s σ H x y v u Q I f d h;obtain⟨i,k,rfl,rfl,q⟩:=h;obtain⟨t,rfl⟩:=f;cases d;exact add_int_bool ⟨.int _,H,I.tok _,⟨_,rfl⟩,q⟩
def Dd:V->V->Bool
 | .non,.non=>true | .non,.int _=>true | .int _,.non=>true | .non,.bl _=>true | .bl _,.non=>true | .non,.str _=>true | .str _,.non=>true
 | .int _,.int _=>true | .bl _,.bl _=>true | .str _,.str _=>true | .byt _,.byt _=>true
 | .int _,.str _=>true | .str _,.int _=>true | .bl _,.str _=>true | .str _,.bl _=>true
 | _,_=>false
def rEq:R2:=λx y H Q=>Dd x y=true/\Q (.bl (decide (x=y))) H
def rNe:R2:=λx y H Q=>Dd x y=true/\Q (.bl (!decide (x=y))) H
def De :decide (V.int i=V.int j)=(i == j):=by
 rw[Bool.eq_iff_iff];simp
def Dg :decide (V.bl i=V.bl j)=(i == j):=by
 rw[Bool.eq_iff_iff];simp
def Dh :decide (V.str i=V.str j)=(i == j):=by
 rw[Bool.eq_iff_iff];simp
def Di :decide (V.byt i=V.byt j)=(i.toList == j.toList):=by
 rw[Bool.eq_iff_iff];cases i;cases j;simp
section
variable {X:Cx}{a b c:Expr}{ta tb tc:TE}{pos:Pos}
def bQ  {σ:St}     (I:Inv X d σ H s)(q:Q (.bl k) H)(e:k=f):EP X d σ Q (.bool f) s:=by
 subst e;exact⟨.bl k,H,I,rfl,q⟩
def vY:OpR X (compareOp .Eq) rEq:=by
 intro pins s σ H x y v u Q I m d h;obtain⟨hs,q⟩:=h
 cases x with
 |non =>
  cases m
  cases y with
  |non=>cases d;exact PySem.EqNone.eq_none_none (bQ I q (by simp))
  |bl j=>cases d;exact PySem.EqNone.eq_none_bool (bQ I q (by simp))
  |int j=>obtain⟨f,rfl⟩:=d;exact PySem.EqNone.eq_none_int (bQ I q (by simp))
  |str j=>obtain⟨f,rfl⟩:=d;exact PySem.EqNone.eq_none_str (bQ I q (by simp))
  | _=>exact absurd (show false=true from hs) zA
 |bl i =>
  cases m
  cases y with
  |non=>cases d;exact PySem.EqNone.eq_bool_none (bQ I q (by simp))
  |bl j=>cases d;exact eq_bool (bQ I q Dg)
  |str j=>obtain⟨f,rfl⟩:=d;exact PySem.EqMixed.eq_bool_str (bQ I q (by simp))
  | _=>exact absurd (show false=true from hs) zA
 |int i =>
  obtain⟨t,rfl⟩:=m
  cases y with
  |non=>cases d;exact PySem.EqNone.eq_int_none (bQ I q (by simp))
  |int j=>obtain⟨f,rfl⟩:=d;exact eq_int (bQ I q De)
  |str j=>obtain⟨f,rfl⟩:=d;exact PySem.EqMixed.eq_int_str (bQ I q (by simp))
  | _=>exact absurd (show false=true from hs) zA
 |str i =>
  obtain⟨t,rfl⟩:=m
  cases y with
  |non=>cases d;exact PySem.EqNone.eq_str_none (bQ I q (by simp))
  |bl j=>cases d;exact PySem.EqMixed.eq_str_bool (bQ I q (by simp))
  |int j=>obtain⟨f,rfl⟩:=d;exact PySem.EqMixed.eq_str_int (bQ I q (by simp))
  |str j=>obtain⟨f,rfl⟩:=d;exact eq_str (bQ I q Dh)
  | _=>exact absurd (show false=true from hs) zA
 |byt i =>
  obtain⟨t,rfl⟩:=m
  cases y with
  |byt j=>obtain⟨f,rfl⟩:=d;exact PySem.W.eq_bytes (bQ I q Di)
  | _=>exact absurd (show false=true from hs) zA
 | _=>cases y<;>exact absurd (show false=true from hs) zA
def vZ:OpR X (compareOp .NotEq) rNe:=by
 intro pins s σ H x y v u Q I m d h;obtain⟨hs,q⟩:=h
 cases x with
 |non =>
  cases m
  cases y with
  |non=>cases d;exact PySem.EqNone.ne_none_none (bQ I q (by simp))
  |bl j=>cases d;exact PySem.EqNone.ne_none_bool (bQ I q (by simp))
  |int j=>obtain⟨f,rfl⟩:=d;exact PySem.EqNone.ne_none_int (bQ I q (by simp))
  |str j=>obtain⟨f,rfl⟩:=d;exact PySem.EqNone.ne_none_str (bQ I q (by simp))
  | _=>exact absurd (show false=true from hs) zA
 |bl i =>
  cases m
  cases y with
  |non=>cases d;exact PySem.EqNone.ne_bool_none (bQ I q (by simp))
  |bl j=>cases d;exact ne_bool (bQ I q (congrArg not Dg))
  |str j=>obtain⟨f,rfl⟩:=d;exact PySem.EqMixed.ne_bool_str (bQ I q (by simp))
  | _=>exact absurd (show false=true from hs) zA
 |int i =>
  obtain⟨t,rfl⟩:=m
  cases y with
  |non=>cases d;exact PySem.EqNone.ne_int_none (bQ I q (by simp))
  |int j=>obtain⟨f,rfl⟩:=d;exact ne_int (bQ I q (congrArg not De))
  |str j=>obtain⟨f,rfl⟩:=d;exact PySem.EqMixed.ne_int_str (bQ I q (by simp))
  | _=>exact absurd (show false=true from hs) zA
 |str i =>
  obtain⟨t,rfl⟩:=m
  cases y with
  |non=>cases d;exact PySem.EqNone.ne_str_none (bQ I q (by simp))
  |bl j=>cases d;exact PySem.EqMixed.ne_str_bool (bQ I q (by simp))
  |int j=>obtain⟨f,rfl⟩:=d;exact PySem.EqMixed.ne_str_int (bQ I q (by simp))
  |str j=>obtain⟨f,rfl⟩:=d;exact ne_str (bQ I q (congrArg not Dh))
  | _=>exact absurd (show false=true from hs) zA
 |byt i =>
  obtain⟨t,rfl⟩:=m
  cases y with
  |byt j=>obtain⟨f,rfl⟩:=d;exact PySem.W.ne_bytes (bQ I q (congrArg not Di))
  | _=>exact absurd (show false=true from hs) zA
 | _=>cases y<;>exact absurd (show false=true from hs) zA
def Rf:OpR X (compareOp .Lt) (rI0 λi j=>.bl (decide (i<j))):=vW λ_ _ _ _ _ _ _ q=>lt_int q
def Rg:OpR X (compareOp .LtE) (rI0 λi j=>.bl (decide (i<=j))):=vW λ_ _ _ _ _ _ _ q=>le_int q
def Rh:OpR X (compareOp .Gt) (rI0 λi j=>.bl (decide (j<i))):=vW λ_ _ _ _ _ _ _ q=>gt_int q
def Ri:OpR X (compareOp .In) (λx y H Q=>∃i j,x=.str i/\y=.str j/\Q (.bl (!(Builtin.Str.occurrences j i 0 j.length 1).isEmpty)) H):=by
 intro pins s σ H x y v u Q I f d h;obtain⟨i,j,rfl,rfl,q⟩:=h;obtain⟨t,rfl⟩:=f;obtain⟨m,rfl⟩:=d;exact in_str (bQ I q rfl)
def Rj:OpR X (compareOp .NotIn) (λx y H Q=>∃i j,x=.str i/\y=.str j/\Q (.bl (!(!(Builtin.Str.occurrences j i 0 j.length 1).isEmpty))) H):=by
 intro pins s σ H x y v u Q I f d h;obtain⟨i,j,rfl,rfl,q⟩:=h;obtain⟨t,rfl⟩:=f;obtain⟨m,rfl⟩:=d;exact notIn_str (bQ I q rfl)
def OpR.or{f:Value->Value->Sem Value}{r m:R2}(h:OpR X f r)(h':OpR X f m):OpR X f (λx y H Q=>r x y H Q\/m x y H Q):=by
 intro pins s σ H x y v u Q I j d q
 rcases q with q | q
 ·exact h pins s σ H x y v u Q I j d q
 ·exact h' pins s σ H x y v u Q I j d q
def pK(b:Expr)  (h:op≠.In:=by decide)(h2:op≠.NotIn:=by decide):behindInMarks op b=false:=by
 have f:(op == CmpOp.In)=false:=by cases op<;>first | rfl | exact absurd rfl h
 have d:(op == CmpOp.NotIn)=false:=by cases op<;>first | rfl | exact absurd rfl h2
 cases b<;>simp[behindInMarks,f,d]
def Rk   (m:OpR X (compareOp op) r)(C:PE X a ta)(hb:PE X b tb)(t:behindInMarks op b=false):PE X (.Compare a [op] [b] pos) (tOp r ta tb):=by
 intro pins s σ H Q I h;exact wpAny_Compare1 (vV C hb I h λv u d x y F E j f q=>m pins d σ F x y v u Q E j f q) t
def rP(t:TE):TT:=λσ H Q=>t σ H λx d=>∃k,x=.bl k/\Q k d
def Rm   (d:OpR X (compareOp op) r)(j:PE X a ta)(hb:PE X b tb)(f:behindInMarks op b=false):PT X (.Compare a [op] [b] pos) (rP (tOp r ta tb)):=by
 intro pins s σ H Q I h
 refine wpAny_isTrue_Compare1 (thn (j _ s σ H _ I h) λv s1 ⟨x,H1,I1,r1,q1⟩=>thn (hb _ s1 σ H1 _ I1 q1) λu s2 ⟨y,H2,I2,r2,q2⟩ =>
  thn (d _ s2 σ H2 x y v u _ I2 r1 r2 q2) λc s3 ⟨z,H3,I3,r3,k,e,q3⟩=>?_) f
 subst e;cases r3;exact wpAny_truthy_bool ⟨H3,I3,q3⟩
def v7(r j:R2)(ta tb tc:TE):TE:=λσ H Q=>ta σ H λx u=>tb σ u λy t=>r x y t λz d=>∃k,z=.bl k /\
 (if k=true then tc σ d λf m=>j y f m Q else Q (.bl false) d)
def Rn   (j:OpR X (compareOp op) r)(f:OpR X (compareOp op') r')(C:PE X a ta)(hb:PE X b tb)(t:PE X c tc)
  (m:lastMarks [op,op'] [b,c]=false:=by with_unfolding_all rfl):PE X (.Compare a [op,op'] [b,c] pos) (v7 r r' ta tb tc):=by
 intro pins s σ H Q I h
 refine Compare_chain (thn (C _ s σ H _ I h) λv s1 ⟨x,H1,I1,r1,q1⟩=>chain_link (thn (hb _ s1 σ H1 _ I1 q1) λu s2 ⟨y,H2,I2,r2,q2⟩ =>
  thn (j _ s2 σ H2 x y v u _ I2 r1 r2 q2) λd s3 ⟨z,H3,I3,r3,k,e,q3⟩=>?_)) m
 subst e;cases r3;refine wpAny_truthy_bool ?_
 cases k with
 |false=>exact ite_ff ⟨.bl _,H3,I3,rfl,q3⟩
 |true=>exact ite_tt (chain_last (thn (t _ s3 σ H3 _ I3 q3) λw' s4 ⟨z',H4,I4,r4,q4⟩=>f _ s4 σ H4 y z' u w' Q I4 r2 r4 q4))
def Ro   (m:OpR X (compareOp op) r)(f:OpR X (compareOp op') r')(E:PE X a ta)(hb:PE X b tb)(C:PE X c tc)
  (t:lastMarks [op,op'] [b,c]=false:=by with_unfolding_all rfl):PT X (.Compare a [op,op'] [b,c] pos) (rP (v7 r r' ta tb tc)):=by
 intro pins s σ H Q I h
 refine isTrue_chain (thn (E _ s σ H _ I h) λv s1 ⟨x,H1,I1,r1,q1⟩=>test_link (thn (hb _ s1 σ H1 _ I1 q1) λu s2 ⟨y,H2,I2,r2,q2⟩ =>
  thn (m _ s2 σ H2 x y v u _ I2 r1 r2 q2) λd s3 ⟨z,H3,I3,r3,k,e,q3⟩=>?_)) t
 subst e;cases r3;refine wpAny_truthy_bool ?_
 cases k with
 |false =>
  obtain⟨G,F,j⟩:=q3;cases F;exact ite_ff ⟨H3,I3,j⟩
 |true =>
  refine ite_tt (test_last (thn (C _ s3 σ H3 _ I3 q3) λw' s4 ⟨z',H4,I4,r4,q4⟩=>thn (f _ s4 σ H4 y z' u w' _ I4 r2 r4 q4) λd' s5 ⟨z2,H5,I5,r5,k2,e2,q5⟩=>?_));subst e2;cases r5;exact wpAny_truthy_bool ⟨H5,I5,q5⟩
def v8(K:PySem.W.Frag)(x:V)(H:Hp)(k:Bool):Prop :=
 match x with
 | .non=>k=false
 | .bl b=>k=b
 | .int i=>k=(i != 0)
 | .str y=>y.length<=sizeLine/\k=((y.length:Int) != 0)
 | .byt y=>y.size<=sizeLine/\k=((y.size:Int) != 0)
 | .ref p=>(∃d,SqL K H p d/\k = !d.isEmpty)\/(∃d,SqT K H p d/\k = !d.isEmpty)\/∃f,H p=some (.dK f)/\k = !f.isEmpty
 | _=>False
def Rq    (r:KV d vs):(!vs.isEmpty) = !d.isEmpty:=by
 cases r<;>rfl
def Dj   (r:aF xs d):(!d.toArray.isEmpty) = !xs.isEmpty:=by
 cases r<;>simp
def rQ:(sizeLine:Nat)<2 ^ 63:=by decide
def v9:QX X (λx H Q=>∃k,v8 X.K x H k/\Q k H):=by
 intro pins s σ H x v Q I f h;obtain⟨k,e,q⟩:=h;have L:=rQ;have hs:sizeLine=16777216:=sizeLine_eq
 cases x with
 |non =>
  cases f;have d:k=false:=e;subst d;exact truthy_none ⟨H,I,q⟩
 |bl b =>
  cases f;have d:k=b:=e;subst d;exact wpAny_truthy_bool ⟨H,I,q⟩
 |int i =>
  obtain⟨t,rfl⟩:=f;have d:k=(i != 0):=e;subst d;exact PySem.P.truthy_int ⟨H,I,q⟩
 |str y =>
  obtain⟨t,rfl⟩:=f;obtain⟨G,d⟩ :=e;subst d;exact PySem.P.truthy_str (by omega) ⟨H,I.tok _,q⟩
 |byt y =>
  obtain⟨t,rfl⟩:=f;obtain⟨G,d⟩ :=e;subst d;exact PySem.W.truthy_bytes (by omega) ⟨H,I.tok _,q⟩
 |ref p =>
  cases f;have d :=e
  rcases d with⟨E,hx,d⟩ | ⟨E,hx,d⟩ | ⟨j,hx,d⟩
  ·subst d;obtain⟨u,r,pl,C⟩:=I.list hx;have hlen:=r.length;exact wpAny_truthy_list pl.isList (by simp only[zI];omega) ⟨H,I.tok _,by rw[Dj r];exact q⟩
  ·subst d;obtain⟨u,r,pl,C⟩:=I.tuple hx;have hlen:=r.length;exact truthy_tuple pl (by simp only[zI];omega) ⟨H,I.tok _,by rw[Dj r];exact q⟩
  ·subst d;obtain⟨C,J,F,r,m⟩ :=I.hok p _ hx;have hlen:j.length=F.length:=Paired.length r;exact wpAny_truthy_dict J m (by omega) ⟨H,I.tok _,by rw[Rq r];exact q⟩
 | _=>exact(show False from e).elim
def Rr(j:PE X a ta)(f:∀whole,isTrue a X.env whole=(do let v <-whole;standAt a.pos;holding [v] (truthy v))):
  PT X a (λσ H Q=>ta σ H λx d=>∃k,v8 X.K x d k/\Q k d):=by
 intro pins s σ H Q I h;exact isTrue_plain (thn (j pins s σ H _ I h) λv s1 ⟨x,H1,I1,r1,q1⟩=>v9 pins s1 σ H1 x v Q I1 r1 q1) (f _)
def Rt:OpR X (binaryOp .Add) (λx y H Q=>∃i j,x=.str i/\y=.str j/\i.length+j.length<=sizeLine/\Q (.str (i++j)) H):=by
 intro pins s σ H x y v u Q I m f h;obtain⟨i,j,rfl,rfl,C,q⟩:=h;obtain⟨t,rfl⟩:=m;obtain⟨d,rfl⟩:=f
 exact add_str λd tk=>⟨.str _,H,I.tok _,⟨_,rfl⟩,q⟩
def vals1   (r:aF [x] us):∃u,us=[u]/\RelV x u:=by
 cases r with
 |cons f d=>cases d;exact⟨_,rfl,f⟩
def vals2   (r:aF [x,y] us):∃u d,us=[u,d]/\RelV x u/\RelV y d:=by
 cases r with
 |cons r1 r2 =>
  cases r2 with
  |cons j f=>cases f;exact⟨_,_,rfl,r1,j⟩
def Ru:cZ X (.type "str") (λxs H Q=>∃i,xs=[.int i]/\i.natAbs.log2<1920/\Q (.str (toString i)) H):=by
 intro pins s σ H xs f Q I r h;obtain⟨i,rfl,d,q⟩:=h;obtain⟨u,rfl,t,rfl⟩:=vals1 r;exact PySem.P.str_of_int d ⟨.str _,H,I.tok _,⟨_,rfl⟩,q⟩
def Rv(K:PySem.W.Frag)(x:V)(H:Hp)(n:Nat):Prop :=
 match x with
 | .str y=>y.length<=sizeLine/\n=y.length
 | .byt y=>y.size<=sizeLine/\n=y.size
 | .ref p=>(∃d,SqL K H p d/\n=d.length)\/∃d,SqT K H p d/\n=d.length
 | _=>False
def call_len:cZ X (.builtin "len") (λxs H Q=>∃x n,xs=[x]/\Rv X.K x H n/\Q (.int n) H):=by
 intro pins s σ H xs F Q I r h;obtain⟨x,n,rfl,e,q⟩:=h;obtain⟨u,rfl,f⟩:=vals1 r;have hs :=sizeLine_eq
 cases x with
 |str y =>
  obtain⟨t,rfl⟩:=f;obtain⟨E,d⟩ :=e;subst d;exact len_str (by omega) ⟨.int _,H,I.tok _,⟨_,rfl⟩,q⟩
 |byt y =>
  obtain⟨t,rfl⟩:=f;obtain⟨E,d⟩ :=e;subst d;exact PySem.W.len_bytes (by omega) ⟨.int _,H,I.tok _,⟨_,rfl⟩,q⟩
 |ref p =>
  cases f;have d :=e
  rcases d with⟨xs,hx,d⟩ | ⟨xs,hx,d⟩
  ·subst d;obtain⟨m,j,pl,C⟩:=I.list hx;have hlen:=j.length;exact Calls.call_len_list pl.isList (by simp  ;omega) ⟨.int _,H,I.tok _,⟨_,by simp only[zI];rw[hlen]⟩,q⟩
  ·subst d;obtain⟨m,j,pl,C⟩:=I.tuple hx;have hlen:=j.length;exact len_tuple pl (by simp  ;omega) ⟨.int _,H,I.tok _,⟨_,by simp only[zI];rw[hlen]⟩,q⟩
 | _=>exact(e).elim
end
structure lJ(h:Heap)(x dx C:Addr)(mA:Str->Option Value):Prop where
 obj:h.get? x=some (PySem.W.instObj C dx)
 ns:h.Ns1 dx mA
 ne:dx≠x
def Rw{h:Heap}   (n:h.Ns1 G F):∃f,h.get? G=some f/\∀name,PySem.W.lookIn name f=some (F name):=by
 obtain⟨o,j,E,u,hd,C,_,x⟩:=n;refine⟨o,u,λname=>?_⟩;have e:=x name;unfold nsFind findBy at e;rw[<-Array.find?_toList] at e;unfold PySem.W.lookIn;rw[hd]
 dsimp
 split
 ·rename_i y q;rw[q] at e;exact congrArg _ e
 ·rename_i q;rw[q] at e
  have a:j.toList.any (·.refKey)=false:=by
   rw[List.any_eq_false];intro y m;obtain⟨z,t,d⟩:=C y (Array.mem_toList_iff.mp m);simp[DictEntry.refKey,d]
  have a':¬j.toList.any (·.refKey)=true:=by rw[a];exact zA
  rw[if_neg a'];exact congrArg _ e
def lJ.look    (I:lJ h x j C f):∃d,PySem.W.InstAt h x (PySem.W.instObj C j) C (some d)/\∀name,PySem.W.lookIn name d=some (f name):=
 let ⟨d,ho,hl⟩:=Rw I.ns
 ⟨d,⟨I.obj,rfl,rfl,ho⟩,hl⟩
def Rx{K:PySem.W.Frag}   (X:K.In s.heap)(I:lJ s.heap x F C y)(m:PySem.W.plainGet K C name=true)(j:PySem.W.hasDictIn K C=true)
  (t:PySem.W.findIn K (.ref C) name=some none) (hv:y name=some v) (d:PySem.W.handedIn v=true) (h:Q v {s with toks:=s.toks+1}):
  wpAny (model prog w) A (getAttr (.ref x) name expr) Q E s:=by
 obtain⟨u,J,f⟩:=I.look;exact PySem.W.get_value X J (PySem.W.plainGet_of m).1 (PySem.W.findObj_own j t rfl (by rw[f,hv])) d h
def Ry{K:PySem.W.Frag}   (X:K.In s.heap)(I:lJ s.heap x F C y)(d:PySem.W.plainGet K C name=true)
  (u:PySem.W.findIn K (.ref C) name=some (some (.ref f))) (m:PySem.W.isFn K (.ref f)=true) (hv:y name=none) (h:Q (.ref f,[.ref x]) s):
  wpAny (model prog w) A (getMethod (.ref x) name pl) Q E s:=by
 obtain⟨j,J,t⟩:=I.look;exact PySem.W.method_fn X J (PySem.W.plainGet_of d).1 (PySem.W.plainGet_of d).2 u (beq_iff_eq.mp m) (by show(PySem.W.lookIn _ j).map _=some _;rw[t,hv];rfl) h
def RB{K:PySem.W.Frag}   (X:K.In s.heap)(I:lJ s.heap x dx C mA)
  (hs:PySem.W.findIn K (.ref C) "__setattr__" = some (some (.builtin "object.__setattr__"))) (L:PySem.W.plainOver K C=true) (G:PySem.W.takerIn K C name=some none) (O:PySem.W.hasDictIn K C=true)
  (F:PySem.Within mA ns) (hsz:ns.length<=sizeLine)
  (h:∀h',lJ h' x dx C (λy=>if y=name then some v else mA y)->Heap.SameBut dx s.heap h'->Q () {s with heap:=h',toks:=s.toks+2}):
  wpAny (model prog w) A (setAttr (.ref x) name v) Q E s:=by
 obtain⟨U,J,Z⟩:=I.look;refine PySem.W.set_plain X J hs (PySem.W.osa_open X J L G λb=>?_);obtain⟨cd,P,t⟩:=PySem.W.any_some O;have hx :=I.obj;refine za (zb (za (za (wpAny_loadPart hx (za (PySem.W.Looks.here (PySem.W.looks_clsIn X P) ?_))))));rw[t];refine zb (za (zb (za ?_)))
 refine wpAny_nsSet1 I.ns λh' f d=>?_
 obtain⟨Y,R,T,j,m,u⟩:=f.count (PySem.Within.cons _ v F);refine za (wpAny_lookBehind j (by rw[m];exact pastItsLine_dict (zN u (by rw[zw];omega))) ?_);exact zb (h _ ⟨(d.2 _ (Ne.symm I.ne)).trans I.obj,f,I.ne⟩ d)
def RC{s:Shared}{K:PySem.W.Frag}    (X:K.In s.heap)(j:PySem.W.makesIn K C=true)
  (m:PySem.W.findIn K (.ref C) "__init__" = some (some (.ref f))) (u:PySem.W.typeIn K (.ref f)=some (.type "function"))
  (h:codeAny (model prog w) (A.under (.builtin "type.__call__" ⟨.ref C::vs,y⟩)) (.call (.ref f) ⟨.ref (s.heap.objs.size+1)::vs,y⟩) (PySem.W.InitBack (s.heap.objs.size+1) R)
   {s with heap:=(s.heap.push PySem.W.emptyDict).push (PySem.W.instObj C s.heap.objs.size)}):
  codeAny (model prog w) A (.call (.ref C) ⟨vs,y⟩) R s:=by
 obtain⟨x,g,d,t,os⟩:=s;exact PySem.W.make_core (PySem.W.makes_of X j) (PySem.W.looks_findIn X m) (λself=>PySem.W.bind_fn X self u) (.inl rfl) h
noncomputable def c7(f:Str)(v:V):List (Str×V)->List (Str×V)
 | []=>[(f,v)]
 | (g,x)::r=>if g=f then(g,v)::r else(g,x)::c7 f v r
theorem Dk(f g:Str)(v:V):∀fs:List (Str×V),(c7 f v fs).lookup g=if g=f then some v else fs.lookup g
 | []=>by
  show List.lookup g [(f,v)]=_
  by_cases h:g=f
  ·have d :=beq_iff_eq.mpr h;simp  [List.lookup,d,if_pos h]
  ·have d :=beq_eq_false_iff_ne.mpr h;simp  [List.lookup,d,if_neg h]
 | (k,x)::r=>by
  have m:=Dk f g v r;rw[show c7 f v _=if k=f then(k,v)::r else(k,x)::c7 f v r from rfl]
  by_cases j:k=f
  ·rw[if_pos j]
   by_cases h:g=k
   ·have d :=beq_iff_eq.mpr h;simp  [List.lookup,d,if_pos (h.trans j)]
   ·have d :=beq_eq_false_iff_ne.mpr h;simp  [List.lookup,d,if_neg λe:g=f=>h (e.trans j.symm)]
  ·rw[if_neg j]
   by_cases h:g=k
   ·have d :=beq_iff_eq.mpr h;simp  [List.lookup,d,if_neg λe =>j (h.symm.trans e)]
   ·have d :=beq_eq_false_iff_ne.mpr h;simp  [List.lookup,d];exact m
theorem wg(f:Str)(v:V):∀fs:List (Str×V),f∈(c7 f v fs).map (·.1)/\∀g,g∈fs.map (·.1)->g∈(c7 f v fs).map (·.1)
 | []=>⟨by simp[c7],λg h=>by simp at h⟩
 | (k,x)::r=>by
  obtain⟨m,j⟩:=wg f v r;rw[show c7 f v _=if k=f then(k,v)::r else(k,x)::c7 f v r from rfl]
  by_cases d:k=f
  ·subst d;exact⟨by simp,λg h=>by simpa using h⟩
  ·rw[if_neg d];refine⟨?_,λg h=>?_⟩
   ·exact zm _ m
   ·rcases zk.mp h with e | e
    ·exact zk.mpr (.inl e)
    ·exact zm _ (j g e)
theorem Dl(f:Str)(v:V):∀fs:List (Str×V),(c7 f v fs).length<=fs.length+1
 | []=>by simp[c7]
 | (k,x)::r=>by
  have j:=Dl f v r;rw[show c7 f v _=if k=f then(k,v)::r else(k,x)::c7 f v r from rfl]
  by_cases d:k=f
  ·rw[if_pos d,zw,zw];omega
  ·rw[if_neg d,zw,zw];omega
def dq.some_of   (r:dq (some v) o):∃u,o=some u/\RelV v u:=by
 cases o with
 |none=>exact(show False from r).elim
 |some u=>exact⟨u,rfl,r⟩
def dq.none_of  (r:dq none o):o=none:=by
 cases o with
 |none=>rfl
 |some u=>exact(show False from r).elim
def RD   (r:RelV v u):PySem.W.handedIn u=true:=by
 cases v with
 | non
 |bl b=>cases(r);rfl
 | int i
 | str x
 | byt b
 |flt b=>obtain⟨t,e⟩:=(r);cases e;rfl
 | ref a
 |ty n=>cases(r);rfl
def rR(hok:HOk P w H h)(e:H a=some (.ins C m fs)):∃j,lJ h a m C j/\(∀f,dq (fs.lookup f) (j f))/\PySem.Within j (fs.map (·.1))/\fs.length<=1000/\H m=some (.own a):=by
 obtain⟨d,z,ne,ob,j,n,r,q⟩:=(hok a _ e);exact⟨j,⟨ob,n,ne⟩,r,q,z,d⟩
structure Cls(K:PySem.W.Frag)(C:Addr):Prop where
 pg:PySem.W.plainGet K C Str.empty=true
 hd:PySem.W.hasDictIn K C=true
 po:PySem.W.plainOver K C=true
 sa:PySem.W.findIn K (.ref C) "__setattr__" = some (some (.builtin "object.__setattr__"))
def Cls.get{K:PySem.W.Frag}{C:Addr}(c:Cls K C)(f:Str):PySem.W.plainGet K C f=true:=c.pg
def lK(K:PySem.W.Frag)(C:Addr)(f:Str):Prop:=PySem.W.findIn K (.ref C) f=some none
def lK.taker{K:PySem.W.Frag}   (n:lK K C f):PySem.W.takerIn K C f=some none:=by
 unfold PySem.W.takerIn;rw[show PySem.W.findIn K (.ref C) f=some none from n];rfl
structure Con(K:PySem.W.Frag)(C:Addr)(f:Str)(v:V)(u:Value):Prop where
 at_:PySem.W.findIn K (.ref C) f=some (some u)
 rel:RelV v u
 get:PySem.W.specialIn K u "__get__" = some none
 cp:PySem.W.copiedNames.contains f=false
structure nu(K:PySem.W.Frag)(C:Addr)(m:Str)(f:Addr):Prop where
 at_:PySem.W.findIn K (.ref C) m=some (some (.ref f))
 fn:PySem.W.isFn K (.ref f)=true
 kp:PySem.W.keepIn K (.ref f)=true
def RG{σ:St}   (I:Inv X x σ H s)(e:H a=some (.ins C y fs))(c:Cls X.K C)(n:lK X.K C f)(l:fs.lookup f=some v)
  (h:∀u d,Inv X x σ H d->RelV v u->Q u d):wpAny (model X.prog X.w) A (getAttr (.ref a) f b) Q E s:=by
 obtain⟨t,O,r,_⟩:=rR I.hok e;obtain⟨u,m,j⟩:=dq.some_of (by rw[<-l];exact r f);exact Rx I.kIn O (c.get f) c.hd n m (RD j) (h u _ (I.tok _) j)
def Dm{σ:St}     (I:Inv X j σ H s)(e:H a=some (.ins C t fs))(c:Cls X.K C)(k:nu X.K C m g)(l:fs.lookup m=none)
  (h:Q (.ref g,[.ref a]) s):wpAny (model X.prog X.w) A (getMethod (.ref a) m pl) Q E s:=by
 obtain⟨f,O,r,_⟩:=rR I.hok e;have d :=dq.none_of (by rw[<-l];exact r m);exact Ry I.kIn O (c.get m) k.at_ k.fn d h
def RJ{σ:St}    (I:Inv X U σ H s)(e:H a=some (.ins C W fs))(c:Cls X.K C)(n:lK X.K C f)(T:fs.length<1000)(F:RelV y u)
  (h:∀m,Inv X U σ (upd H a (.ins C W (c7 f y fs))) m->Q () m):wpAny (model X.prog X.w) A (setAttr (.ref a) f u) Q E s:=by
 obtain⟨G,O,r,j,_,t⟩:=rR I.hok e
 have J:(fs.map (·.1)).length<=sizeLine:=by rw[zf,sizeLine_eq];omega
 refine RB I.kIn O c.sa c.po n.taker c.hd j J λR d x=>h _ ?_
 have hd:∃o,R.get? W=some o:=let ⟨o,_,_,e',_⟩:=d.ns;⟨o,e'⟩;refine I.write (by rw[e];exact True.intro) (.inr t) (λb q P z=>(x.2 b P).trans z) hd ?_;refine⟨by rw[aD O.ne];exact t,?_,O.ne,d.obj,_,d.ns,λg=>?_,λg L=>?_⟩
 ·have:=Dl f y fs;omega
 ·rw[Dk]
  by_cases q:g=f
  ·rw[if_pos q,if_pos q];exact F
  ·rw[if_neg q,if_neg q];exact r g
 ·by_cases q:g=f
  ·rw[q];exact(wg f y fs).1
  ·refine(wg f y fs).2 g (j g λz=>L ?_);show(if g=f then some u else G g)=none;rw[if_neg q];exact z
def Inv.made{σ:St}(I:Inv X E σ H s):Inv X E σ (upd (upd H s.heap.objs.size (.own (s.heap.objs.size+1))) (s.heap.objs.size+1) (.ins C s.heap.objs.size []))
  {s with heap:=(s.heap.push PySem.W.emptyDict).push (PySem.W.instObj C s.heap.objs.size)}:=by
 have d:(s.heap.push PySem.W.emptyDict).get? s.heap.objs.size=some PySem.W.emptyDict:=zy s.heap rfl
 have t:((s.heap.push PySem.W.emptyDict).push (PySem.W.instObj C s.heap.objs.size)).get? (s.heap.objs.size+1)=some (PySem.W.instObj C s.heap.objs.size):=by
  have:=zy (s.heap.push PySem.W.emptyDict) (o:=PySem.W.instObj C s.heap.objs.size) rfl
  rwa [Heap.size_push] at this
 have m:(s.heap.push PySem.W.emptyDict).Ns s.heap.objs.size (λ_=>none):=⟨PySem.W.emptyDict,#[],_,d,rfl,(λe j=>absurd j (by simp)),λ_=>rfl⟩;have x:=I.laid (a:=s.heap.objs.size) (o:=.own (s.heap.objs.size+1)) (h':=s.heap.push PySem.W.emptyDict) (t':=s.toks) (λb u q=>zo _ q) (zc _) ⟨_,d⟩;refine x.laid (a:=s.heap.objs.size+1) (o:=.ins C s.heap.objs.size []) (t':=s.toks) (λb u q=>zo _ q) (Nat.le_of_eq (Heap.size_push _ _)) ?_;have ne:s.heap.objs.size≠s.heap.objs.size+1:=zp (jd _);refine⟨by rw[aD ne,bx],Nat.zero_le _,ne,t,λ_=>none,(Heap.Ns1.of_empty m).at λo q=>zo _ q,λ_=>True.intro,λy f=>absurd rfl f⟩
def RK         (hb:attributeBase e f env (eval e env)=eval e env)
  (h:wpAny (model prog w) A (eval e env) (λo d=>wpAny (model prog w) A (getAttr o f true) Q E d) E s):wpAny (model prog w) A (eval (.Attribute e f j) env) Q E s :=
 Attribute_any_ h (by rw[arm_eval_Attribute,hb])
def RL(K:PySem.W.Frag)(j:TE)(f:Str):TE:=λσ H Q=>j σ H λx d=>∃a C m fs v,x=.ref a/\d a=some (.ins C m fs)/\Cls K C/\lK K C f/\fs.lookup f=some v/\Q v d
def RM(K:PySem.W.Frag)(t m:TE)(f:Str):TS:=λD σ H=>m σ H λy u=>t σ u λx j=>∃a C d fs,x=.ref a/\j a=some (.ins C d fs)/\Cls K C/\lK K C f/\fs.length<1000 /\
 D.nx σ (upd j a (.ins C d (c7 f y fs)))
def RN(j:PE X e E)(hb:attributeBase e f X.env (eval e X.env)=eval e X.env):PE X (.Attribute e f F) (RL X.K E f):=by
 intro pins s σ H Q I h;refine RK hb (thn (j _ s σ H _ I h) λu s1 ⟨x,H1,I1,rx,a,C,dx,fs,v,ex,ea,c,n,l,q⟩=>?_);subst ex;obtain rfl :=rx
 exact RG I1 ea c n l λt y m d=>⟨v,H1,m,d,q⟩
def RP(d:PE X o J)(hv:PE X t G)(hs:swapsWith t (some (.Attribute o f E)) F.line X.env=pure false):PS X (.Assign [.Attribute o f E] t F) (RM X.K J G f):=by
 intro pins s σ H D I h;refine plainObj_wpAny_Assign_Attribute (thn (hv _ s σ H _ I h) λu s1 ⟨y,H1,I1,ry,q⟩=>thn (d _ s1 σ H1 _ I1 q) λov s2 ⟨x,H2,I2,rx,a,C,dx,fs,ex,ea,c,n,l,q2⟩=>?_) hs;subst ex;obtain rfl :=rx
 exact RJ I2 ea c n l ry λm j=>⟨σ,_,j,q2⟩
inductive gh (K:PySem.W.Frag) (H:Hp):V->Value->Prop where
 | non:gh K H .non (.type "NoneType")
 | bl (x:Bool):gh K H (.bl x) (.type "bool")
 | int (i:Int):gh K H (.int i) (.type "int")
 | str (x:Str):gh K H (.str x) (.type "str")
 | flt (x:UInt64):gh K H (.flt x) (.type "float")
 | lst {a:Addr}{xs:List V} (e:H a=some (.lst xs)):gh K H (.ref a) (.type "list")
 | frz {a:Addr}{o:Obj}{xs:List V} (e:H a=some (.frz o (.lst xs))):gh K H (.ref a) (.type "list")
 | tup {a:Addr}{xs:List V} (e:H a=some (.tup xs)):gh K H (.ref a) (.type "tuple")
 | dK {a:Addr}{kvs:List (Key×V)} (e:H a=some (.dK kvs)):gh K H (.ref a) (.type "dict")
 | dT {a:Addr}{kvs:List (List Key×V)} (e:H a=some (.dT kvs)):gh K H (.ref a) (.type "dict")
 | ins {a C dx:Addr}{fs:List (Str×V)} (e:H a=some (.ins C dx fs)) (cl:Cls K C) (ha:PySem.W.findIn K (.ref C) "__class__" = some (some (.builtin "object.__class__")))
   (hn:PySem.W.specialIn K (.builtin "object.__class__") "__get__" = some (some (.builtin "getset_descriptor.__get__"))) (htk:PySem.W.takesIn K (.builtin "object.__class__")=some true)
   (hm:PySem.W.mroIn K C (.type "object")=some true):gh K H (.ref a) (.ref C)
def pM{σ:St}   (I:Inv X pins σ H s)(d:RelV x u)(ty:gh X.K H x t)(e:PySem.W.kitOne X.K t c=some b)(h:∀tk,Q (.bool b) {s with toks:=tk}):
  wpAny (model X.prog X.w) A (call (.builtin "isinstance") [u,c]) Q E s:=by
 cases ty with
 |non=>cases(show u=Value.none from d);exact PySem.W.kia_one PySem.W.kitx_none I.kIn True.intro e (λz=>nomatch z) h
 |bl y=>cases(show u=Value.bool y from d);exact PySem.W.kia_one PySem.W.kitx_bool I.kIn True.intro e (λz=>nomatch z) h
 |int i=>obtain⟨t,q⟩:=(show ∃t,u=Value.int i t from d);cases q;exact PySem.W.kia_one PySem.W.kitx_int I.kIn True.intro e (λz=>nomatch z) h
 |str y=>obtain⟨t,q⟩:=(show ∃t,u=Value.str y t from d);cases q;exact PySem.W.kia_one PySem.W.kitx_str I.kIn True.intro e (λz=>nomatch z) h
 |flt y=>obtain⟨t,q⟩:=(show ∃t,u=Value.float y t from d);cases q;exact PySem.W.kia_one PySem.W.kitx_float I.kIn True.intro e (λz=>nomatch z) h
 | @lst a f ea =>
  cases(show u=Value.ref a from d);obtain⟨_,_,n,_,h1⟩:=(show bU X.prog X.w H s.heap a (.lst f) from I.hok a _ ea);exact PySem.W.kia_one PySem.W.kitx_list I.kIn ⟨_,h1,rfl⟩ e (λz=>nomatch z) h
 | @frz a ob f ea =>
  cases(show u=Value.ref a from d);obtain⟨_,_,_,n,_,h1⟩:=(show bU X.prog X.w H s.heap a (.frz ob (.lst f)) from I.hok a _ ea);exact PySem.W.kia_one PySem.W.kitx_list I.kIn ⟨_,h1,rfl⟩ e (λz=>nomatch z) h
 | @tup a f ea =>
  cases(show u=Value.ref a from d);obtain⟨_,_,_,p⟩:=(show bU X.prog X.w H s.heap a (.tup f) from I.hok a _ ea);obtain⟨o,h1,h2,_⟩:=p;exact PySem.W.kia_one PySem.W.kitx_tuple I.kIn ⟨o,h1,h2⟩ e (λz=>nomatch z) h
 | @dK a kvs ea =>
  cases(show u=Value.ref a from d);obtain⟨_,_,F,_,p⟩:=(show bU X.prog X.w H s.heap a (.dK kvs) from I.hok a _ ea);obtain⟨o,j,m,h1,h2,_⟩:=p;exact PySem.W.kia_one PySem.W.kitx_dict I.kIn ⟨o,h1,h2.1⟩ e (λz=>nomatch z) h
 | @dT a kvs ea =>
  cases(show u=Value.ref a from d);obtain⟨_,_,f,_,o,j,m,h1,h2,_⟩:=(show bU X.prog X.w H s.heap a (.dT kvs) from I.hok a _ ea);exact PySem.W.kia_one PySem.W.kitx_dict I.kIn ⟨o,h1,h2.1⟩ e (λz=>nomatch z) h
 | @ins a C dx fs ea cl ha hn htk hm =>
  cases(show u=Value.ref a from d);obtain⟨L,O,_⟩:=rR I.hok ea;obtain⟨G,J,_⟩:=O.look;exact PySem.W.kia_one (PySem.W.kitx_own (cl.get _) cl.hd ha hn htk hm) I.kIn J e (λz=>nomatch z) h
structure aW(k:Nat)(A:Around):Prop where
 hd:A.handled=none
 dp:A.depth+3 * k+5<recursionLimit
 un:A.units+16 * k+200<cLine
def aW.mono   (r:aW k A)(h:j<=k):aW j A:=⟨r.hd,by have:=r.dp;omega,by have:=r.un;omega⟩
def aW.deeper   (r:aW (k+1) A)(env:Env):aW k (A.deeper env):=
 ⟨r.hd,by have:=r.dp;show A.depth+1+3 * k+5<_;omega,by have:=r.un;show A.units+3+16 * k+200<_;omega⟩
def RQ{A:Around}   :(A.under (.builtin "type.__call__" ⟨.ref C::us,d⟩)).depth=A.depth+1:=by
 first | rfl | simp
def RT{A:Around}   :(A.under (.builtin "type.__call__" ⟨.ref C::us,d⟩)).units=A.units+1:=by
 first | rfl | simp
def aW.make   (r:aW (k+1) A)(C:Addr)(us:List Value)(d:List (Str×Value)):aW k (A.under (.builtin "type.__call__" ⟨.ref C::us,d⟩)):=
 ⟨r.hd,by have:=r.dp;rw[RQ];omega,by have:=r.un;rw[RT];omega⟩
def aW.depth   (r:aW k A):A.depth<recursionLimit:=by have:=r.dp;omega
def aW.units   (r:aW k A):A.units+64<cLine:=by have:=r.un;omega
def wj:TA:=λ_ H Q=>Q [] H
def RV(j:TE)(f:TA):TA:=λσ H Q=>j σ H λx t=>f σ t λd m=>Q (x::d) m
def fC:PA X [] wj:=λ_ _ _ _ H Q I h=>Calls.spliced_nil ⟨[],H,I,.nil,h⟩
def dY(f:PE X e te)(d:PA X es t)(hs:starEach (e::es) X.env=(false,eval e X.env)::starEach es X.env:=by rfl):PA X (e::es) (RV te t):=by
 intro j pins s σ H Q I h;rw[hs];show wpAny _ _ (spliced ((false,eval e _)::backTo _ _)) _ _ s;refine Calls.spliced_cons (thn (f _ s σ H _ I h) λu s1 ⟨x,H1,I1,r1,q1⟩=>?_)
 exact thn (d _ _ s1 σ H1 _ I1 q1) λus s2 ⟨xs,H2,I2,r2,q2⟩=>⟨x::xs,H2,I2,.cons r1 r2,q2⟩
def RX(t:TA):TE:=λσ H Q=>t σ H λd f=>d.length<=sizeLine/\∀p,f p=none->Q (.ref p) (upd f p (.tup d))
def RZ(t:TA):TE:=λσ H Q=>t σ H λd f=>d.length<=sizeLine/\∀p,f p=none->Q (.ref p) (upd f p (.lst d))
def R0  (h:PA X es t):PE X (.Tuple es m j) (RX t):=by
 intro pins s σ H Q I d;refine wpAny_Tuple_spliced (thn (h _ _ s σ H _ I d) λus s1 ⟨xs,H1,I1,r,z,q⟩=>⟨by rw[<-r.length];exact z,?_⟩);have f :=I1.hok.fresh (zc _);refine⟨.ref _,upd H1 _ _,I1.laid (λb u e=>zo _ e) (zc _) ?_,rfl,q _ f⟩;exact⟨z,us,r,⟨_,zy _ rfl,rfl,_,rfl⟩⟩
def R1(h:PA X es t):PE X (.List es j) (RZ t):=by
 intro pins s σ H Q I d;refine wpAny_List_spliced (thn (h _ _ s σ H _ I d) λus s1 ⟨xs,H1,I1,r,z,q⟩=>⟨by rw[<-r.length];exact z,?_⟩);have f :=I1.hok.fresh (zc _);refine⟨.ref _,upd H1 _ _,I1.laid (λb u e=>zo _ e) (zc _) ?_,rfl,q _ f⟩;exact⟨z,us,0,r,zy _ rfl⟩
abbrev Sp:=List V->Hp->VK->XK->Prop
abbrev CXT:=List Env->Hp->Shared->XK->Value->Shared->Prop
structure iW(P:Program)(w:World)(K:PySem.W.Frag)(mg:Str->Option Value)(base:Heap)(A:Around)(outer:List Env)(s:Shared)(H:Hp):Prop where
 frames:A.frames=some outer
 mod:Mod K mg base
 bs:∀b o,base.get? b=some o->s.heap.get? b=some o/\H b=none
 bsz:base.objs.size<=s.heap.objs.size
 funs:s.heap.FunFrames base outer
 frf:∀b∈frs outer,H b=none
 hok:HOk P w H s.heap
 bare:AllBare s.gens
inductive CE (outer:List Env) (P:Program) (w:World) (H:Hp) (s:Shared) (Q:VK) (u:Value) (s':Shared):Prop
 | mk:∀v H',s'.os=s.os->AllBare s'.gens->Un (frs outer) [] H H' s.heap s'.heap->HOk P w H' s'.heap->RelV v u->Q v H'->CE outer P w H s Q u s'
def CR(CX:CXT)(outer:List Env)(P:Program)(w:World)(H:Hp)(s:Shared)(Q:VK)(E:XK)(r:Result)(d:Shared):Prop :=
 match r with
 | .ok (.ret u)=>CE outer P w H s Q u d
 | .ok _=>False
 | .error e=>CX outer H s E e d
structure cz(P:Program)(w:World)(K:PySem.W.Frag)(mg:Str->Option Value)(base:Heap)(CX:CXT)(k:Nat)(f:Addr)(fd:FuncData)(ps:List Str)(sp:Sp):Prop where
 len:∀vs H Q E,sp vs H Q E->vs.length=ps.length
 run:∀(A:Around) (outer:List Env) (s:Shared) (H:Hp) (args:Args) (us:List Value) (vs:List V) (Q:VK) (E:XK),aW k A->iW P w K mg base A outer s H->BindsTo s fd args (ps.zip us)->aF vs us->sp vs H Q E ->
  codeAny (model P w) A (.call (.ref f) args) (CR CX outer P w H s Q E) s
def cz.imp   {K:PySem.W.Frag}         (F:cz P w K mg base CX k f fd ps sp)
  (h:∀vs H Q E,x vs H Q E->sp vs H Q E):cz P w K mg base CX k f fd ps x :=
 ⟨λvs H Q E q=>F.len vs H Q E (h _ _ _ _ q),λA outer s H args d vs Q E m t u j hs=>F.run A outer s H args d vs Q E m t u j (h _ _ _ _ hs)⟩
def iW.make   {K:PySem.W.Frag}       (e:iW P w K mg base A outer s H)(C:Addr)(us:List Value)(d:List (Str×Value)):
  iW P w K mg base (A.under (.builtin "type.__call__" ⟨.ref C::us,d⟩)) outer s H:=⟨by first | exact e.frames | (simpa [Around.under,Code.envs,Code.isFrame,pushEnvs] using e.frames),e.mod,e.bs,e.bsz,e.funs,e.frf,e.hok,e.bare⟩
def Inv.env0{σ:St}(I:Inv X d σ H s):iW X.prog X.w X.K X.mg X.base X.A X.stack s H :=
 ⟨I.ok.frames,I.ok.mod,I.bs,zN I.ok.bsz I.sz,I.stack,I.stkFree,I.hok,I.bare⟩
def Inv.after{σ:St}   (I:Inv X x σ H s)(h:CE X.stack X.prog X.w H s Q u y):EP X x σ Q u y:=by
 obtain⟨v,m,os,bare,un,hok,r,q⟩:=h;obtain⟨j,g,d,t,f⟩:=y;obtain rfl:f=s.os:=os;exact⟨v,m,I.call (h':=j) (g':=g) (d':=d) (t':=t) (ch:=[]) un hok bare (λb z=>absurd z (by simp)),r,q⟩
def wk(sp:Sp)(dvs:List V)(E:XK)(t:TA):TE:=λσ H Q=>t σ H λd f=>sp (d++dvs) f Q E
def wu(C:Addr)(m:Str)(sp:Sp)(dvs:List V)(E:XK)(j:TE)(t:TA):TE:=λσ H Q=>j σ H λx d=>∃a u fs,x=.ref a/\d a=some (.ins C u fs)/\fs.lookup m=none /\
 t σ d λf y=>sp (x::(f++dvs)) y Q E
def wy(C:Addr)(sp:Sp)(dvs:List V)(E:XK)(t:TA):TE:=λσ H Q=>t σ H λj f=>∀x d,f x=none->f d=none->d≠x ->
 sp (.ref x::(j++dvs)) (upd (upd f d (.own x)) x (.ins C d [])) (λv m=>v=.non/\Q (.ref x) m) E
def Binds(K:PySem.W.Frag)(fd:FuncData)(ps:List Str)(ds:List Value):Prop :=
 ∀(s:Shared) (d:List Value),K.In s.heap->(d++ds).length=ps.length->BindsTo s fd ⟨d,[]⟩ (ps.zip (d++ds))
def Binds.all{K:PySem.W.Frag}   (h:∀us:List Value,us.length=ps.length->bindArgs fd ⟨us,[]⟩=pure (ps.zip us)):Binds K fd ps []:=λs us _ d=>by
 rw[zG] at d ⊢;exact .of_eq (h us d)
def j0(CX:CXT)(X:Cx)(E:XK):Prop:=∀(pins:List (Addr×Obj)) (σ:St) (H:Hp) (s:Shared) (e:Value) (d:Shared),Inv X pins σ H s->CX X.stack H s E e d->X.xe e d
def wz  {σ:St}      (F:cz X.prog X.w X.K X.mg X.base CX k f fd ps sp)(t:aW k X.A)(hb:Binds X.K fd ps ds)(hd:aF dvs ds)(hx:j0 CX X E)
  (I:Inv X pins σ H s) (r:aF vs us) (h:sp (vs++dvs) H Q E):wpAny (model X.prog X.w) X.A (call (.ref f) us) (EP X pins σ Q) X.xe s:=by
 have j:aF (vs++dvs) (us++ds):=r.append hd
 have x:(us++ds).length=ps.length:=by rw[<-j.length];exact F.len _ _ _ _ h
 refine wpAny_call (codeAny_mono (F.run X.A X.stack s H ⟨us,[]⟩ (us++ds) (vs++dvs) Q E t I.env0 (hb s us I.kIn x) j h) λr m d=>?_)
 cases r with
 |error e=>exact hx pins σ H s e m I d
 |ok fl =>
  cases fl with
  |ret u=>exact I.after d
  |next=>exact False.elim d
  |brk=>exact False.elim d
  |cont=>exact False.elim d
def Dn{p d:Pos}(F:cz X.prog X.w X.K X.mg X.base CX k f fd ps sp)(u:aW k X.A)(G:Gl X x)(y:X.mg x=some (.ref f))(C:PySem.W.keepIn X.K (.ref f)=true)(hb:Binds X.K fd ps ds)(hd:aF dvs ds)(hx:j0 CX X E)
  (L:PA X (e::es) t) (m:(x == ("__debug__":Str))=false:=by decide) (J:starEach (e::es) X.env=(false,eval e X.env)::starEach es X.env:=by rfl) (j:(backTo d (starEach es X.env)).any (·.1)=false:=by rfl):
  PE X (.Call (.Name x p) (e::es) [] d) (wk sp dvs E t):=by
 intro pins s σ H Q I h;refine wpAny_Call_Name_kw (rM I G y ?_ m);refine PySem.W.callWith_K I.ok.mod.kin C (thn (L _ _ s σ H _ I h) λus s1 ⟨vs,H1,I1,r,q⟩=>⟨I1.kIn,?_⟩) J j;exact wz F u hb hd hx I1 r q
def R3{d apos:Pos}{pl:Sem Bool}(O:PE X o R)(c:Cls X.K C)(G:nu X.K C m f)(F:cz X.prog X.w X.K X.mg X.base CX k f fd ps sp)(L:aW k X.A)(hb:Binds X.K fd ps ds)(hd:aF dvs ds)(hx:j0 CX X E)(P:PA X (e::es) t)
  (j:starEach (e::es) X.env=(false,eval e X.env)::starEach es X.env:=by rfl) (y:(backTo d (starEach es X.env)).any (·.1)=false:=by rfl)
  (J:eval (.Call (.Attribute o m apos) (e::es) [] d) X.env=(do
   let ov <-eval o X.env
   standAt apos.atName
   let (f,first) <-holding [ov] (getMethod ov m pl)
   callWith d f first (backTo d (starEach (e::es) X.env)) (backToKw d (keywordEach [] X.env))):=by rfl):
  PE X (.Call (.Attribute o m apos) (e::es) [] d) (wu C m sp dvs E R t):=by
 intro pins s σ H Q I h;refine PySem.W.methodCall_KW (pl:=pl) (thn (O pins s σ H _ I h) λu s1 ⟨x,H1,I1,rx,a,dx,fs,ex,ea,l,q⟩=>?_) J;subst ex;obtain rfl:u=Value.ref a:=rx;refine Dm I1 ea c G l ?_;refine PySem.W.callWith_K (first:=[.ref a]) (h₀:=X.base) I.ok.mod.kin G.kp (thn (P d pins s1 σ H1 _ I1 q) λus s2 ⟨vs,H2,I2,r,q2⟩=>⟨I2.kIn,?_⟩) j y;exact wz (us:=.ref a::us) (vs:=.ref a::vs) F L hb hd hx I2 (.cons rfl r) q2
def R4  (y:PE X o L)(c:Cls X.K C)(d:nu X.K C m f)(F:cz X.prog X.w X.K X.mg X.base CX k f fd ps sp)(t:aW k X.A)(hb:Binds X.K fd ps ds)(hd:aF dvs ds)(hx:j0 CX X E)
  (j:eval (.Call (.Attribute o m J) [] [] G) X.env=(do
   let ov <-eval o X.env
   standAt J.atName
   let (f,first) <-holding [ov] (getMethod ov m pl)
   callWith G f first (backTo G (starEach [] X.env)) (backToKw G (keywordEach [] X.env))):=by rfl):
  PE X (.Call (.Attribute o m J) [] [] G) (wu C m sp dvs E L wj):=by
 intro pins s σ H Q I h;refine PySem.W.methodCall_KW (pl:=pl) (thn (y pins s σ H _ I h) λu s1 ⟨x,H1,I1,rx,a,dx,fs,ex,ea,l,q⟩=>?_) j;subst ex;obtain rfl:u=Value.ref a:=rx;refine Dm I1 ea c d l ?_;exact PySem.W.callWith_K0 (first:=[.ref a]) I1.kIn d.kp (wz (us:=[.ref a]) (vs:=[.ref a]) F t hb hd hx I1 (.cons rfl .nil) q)
structure Mk(K:PySem.W.Frag)(C f:Addr):Prop where
 makes:PySem.W.makesIn K C=true
 init:PySem.W.findIn K (.ref C) "__init__" = some (some (.ref f))
 fn:PySem.W.isFn K (.ref f)=true
 kp:PySem.W.keepIn K (.ref C)=true
def Do  {σ:St}      (M:Mk X.K C f)(F:cz X.prog X.w X.K X.mg X.base CX k f fd ps sp)(O:aW (k+1) X.A)(hb:Binds X.K fd ps ds)(hd:aF dvs ds)
  (hx:j0 CX X E) (I:Inv X pins σ H s) (r:aF vs us)
  (h:∀x j,H x=none->H j=none->j≠x->sp (.ref x::(vs++dvs)) (upd (upd H j (.own x)) x (.ins C j [])) (λv U=>v=.non/\Q (.ref x) U) E):
  wpAny (model X.prog X.w) X.A (call (.ref C) us) (EP X pins σ Q) X.xe s:=by
 have y:=h _ _ (I.hok.fresh (Nat.le_succ _)) (I.hok.fresh (zc _)) (zp (jd _));have m:=Inv.made (C:=C) I;have t:aF (V.ref (s.heap.objs.size+1)::(vs++dvs)) _:=.cons rfl (r.append hd)
 have P :=by
  have e:=t.length;rw[F.len _ _ _ _ y] at e;exact e.symm
 refine wpAny_call (RC I.kIn M.makes M.init (beq_iff_eq.mp M.fn) (codeAny_mono (F.run _ _ _ _ _ _ _ _ E (O.make C us [])
  (m.env0.make C us []) (hb _ _ m.kIn P) t y) λr G d=>?_))
 cases r with
 |error e=>exact hx _ σ _ _ e G m d
 |ok fl =>
  cases fl with
  |ret u =>
   obtain⟨v,W,T,J,R,L⟩:=m.after d;subst R;exact⟨J,⟨V.ref _,W,T,rfl,L⟩⟩
  | next
  | brk
  |cont=>exact False.elim d
def Dp{p d:Pos}(M:Mk X.K C f)(F:cz X.prog X.w X.K X.mg X.base CX k f fd ps sp)(u:aW (k+1) X.A)(G:Gl X x)(y:X.mg x=some (.ref C))(hb:Binds X.K fd ps ds)(hd:aF dvs ds)(hx:j0 CX X E)
  (L:PA X (e::es) t) (m:(x == ("__debug__":Str))=false:=by decide) (J:starEach (e::es) X.env=(false,eval e X.env)::starEach es X.env:=by rfl) (j:(backTo d (starEach es X.env)).any (·.1)=false:=by rfl):
  PE X (.Call (.Name x p) (e::es) [] d) (wy C sp dvs E t):=by
 intro pins s σ H Q I h;refine wpAny_Call_Name_kw (rM I G y ?_ m);refine PySem.W.callWith_K I.ok.mod.kin M.kp (thn (L _ _ s σ H _ I h) λus s1 ⟨vs,H1,I1,r,q⟩=>⟨I1.kIn,?_⟩) J j;exact Do M F u hb hd hx I1 r q
def R5(M:Mk X.K C f)(F:cz X.prog X.w X.K X.mg X.base CX k f fd ps sp)(j:aW (k+1) X.A)(t:Gl X x)(m:X.mg x=some (.ref C))(hb:Binds X.K fd ps ds)(hd:aF dvs ds)(hx:j0 CX X E)
  (d:(x == ("__debug__":Str))=false:=by decide):PE X (.Call (.Name x p) [] [] pos) (wy C sp dvs E wj):=by
 intro pins s σ H Q I h;refine wpAny_Call_Name_kw (rM I t m ?_ d);exact PySem.W.callWith_K0 I.kIn M.kp (Do M F j hb hd hx I .nil h)
structure QDv(K:PySem.W.Frag)(fd:FuncData)(ps ks:List Str)(g:List Value->List Value->List Value)(gV:List V->List V->List V):Prop where
 to:∀(s:Shared) (us ws:List Value),K.In s.heap->(g us ws).length=ps.length->BindsTo s fd ⟨us,ks.zip ws⟩ (ps.zip (g us ws))
 rel:∀{vs:List V}{us:List Value}{zs:List V}{ws:List Value},aF vs us->aF zs ws->aF (gV vs zs) (g us ws)
structure dZ(N P:List Str)(sc:Scope):Prop where
 kind:sc.kind=.function
 co:sc.isCoroutine=false
 gen:sc.isGenerator=false
 nd:N.Nodup
 pre:N.take P.length=P
 par:∀x∈P,sc.names.lookup x=some .local\/sc.names.lookup x=some .cell
 nofree:∀y∈sc.names,y.2≠.free
theorem Dq{kindOf:Str->Option NameKind} :∀{binds:List (Str×Value)}{m:Str->Option Value},(∀v,(x,v)∉binds)->bindL kindOf binds m x=m x
 | [],_,_=>rfl
 | (n,v)::r,m,h=>by
  unfold bindL;rw[Dq λw d=>h w (zm _ d)]
  split
  ·have:x≠n:=by rintro rfl;exact h v zd
   simp[this]
  ·rfl
theorem Dr{kindOf:Str->Option NameKind} :∀{binds:List (Str×Value)}{m:Str->Option Value},(∀v,(x,v)∉binds)->bindC kindOf binds m x=m x
 | [],_,_=>rfl
 | (n,v)::r,m,h=>by
  unfold bindC;rw[Dr λw d=>h w (zm _ d)]
  split
  ·rfl
  ·have:x≠n:=by rintro rfl;exact h v zd
   simp[this]
theorem Dt{kindOf:Str->Option NameKind}{x:Str}{v:Value}:∀{P:List Str}{vs:List Value}{i:Nat}{m:Str->Option Value},P.Nodup->P[i]?=some x->vs[i]?=some v->kindOf x=some .local ->
  bindL kindOf (P.zip vs) m x=some v
 | [],_,_,_,_,h,_,_=>by simp at h
 | _::_,[],_,_,_,_,h,_=>by simp at h
 |p::P,w::vs,0,m,nd,h1,h2,hk=>by
  simp at h1 h2;subst h1;subst h2
  show bindL _ ((p,w)::P.zip vs) m p=_;unfold bindL;rw[Dq λv d=>(List.nodup_cons.mp nd).1 (List.of_mem_zip d).1,if_pos hk];simp
 |p::P,w::vs,i+1,m,nd,h1,h2,hk=>by
  unfold bindL;exact Dt (List.nodup_cons.mp nd).2 (by simpa ) (by simpa ) hk
theorem Dv{kindOf:Str->Option NameKind}{x:Str}{v:Value}:∀{P:List Str}{vs:List Value}{i:Nat}{m:Str->Option Value},P.Nodup->P[i]?=some x->vs[i]?=some v->kindOf x≠some .local ->
  bindC kindOf (P.zip vs) m x=some v
 | [],_,_,_,_,h,_,_=>by simp at h
 | _::_,[],_,_,_,_,h,_=>by simp at h
 |p::P,w::vs,0,m,nd,h1,h2,hk=>by
  simp at h1 h2;subst h1;subst h2
  show bindC _ ((p,w)::P.zip vs) m p=_;unfold bindC;rw[Dr λv d=>(List.nodup_cons.mp nd).1 (List.of_mem_zip d).1,if_neg hk];simp
 |p::P,w::vs,i+1,m,nd,h1,h2,hk=>by
  unfold bindC;exact Dv (List.nodup_cons.mp nd).2 (by simpa ) (by simpa ) hk
noncomputable def start(N:List Str)(vs:List V):St:=vs.map some++List.replicate (N.length - vs.length) none
noncomputable def fU(CX:CXT)(P:Program)(w:World)(K:PySem.W.Frag)(mg:Str->Option Value)(base:Heap)(N:List Str)(qual:Str)(scope:Scope)(f:Addr)(cd:Value)(A:Around)(outer:List Env)(s:Shared)(H:Hp)(E:XK):Cx where
 prog:=P
 w:=w
 K:=K
 mg:=mg
 base:=base
 A:=A.deeper (envOfC qual scope s.heap.objs.size f cd)
 N:=N
 s₀:=s
 H₀:=H
 env:=envOfC qual scope s.heap.objs.size f cd
 outer:=outer
 stack:=envOfC qual scope s.heap.objs.size f cd::outer
 ex:=[]
 calm:=true
 fn:=λ_=>true
 pn:=[]
 xe:=λe s'=>wpAny (model P w) (A.deeper (envOfC qual scope s.heap.objs.size f cd)) (leaving (envOfC qual scope s.heap.objs.size f cd) e) (λ_ s''=>CX outer H s E e s'') (λe' s''=>CX outer H s E e' s'') s'
def Dw{d:Scope}   (h:d.names.lookup x=some .cell):∃c,(cellsFrom n d.names []).lookup x=some c:=by
 have q:=PySem.W.cellsFrom_some _ n [] (.inl h);exact Option.isSome_iff_exists.mp q
def R6    {K:PySem.W.Frag}
  (S:dZ N ps scope) (hd:A.handled=none) (d:iW P w K mg base A outer s H) (Q:vs.length=ps.length) (r:aF vs us)
  (x:InCallC s s.heap.objs.size (bindL (envOfC R scope s.heap.objs.size f T).kindOf (ps.zip us) λ_=>none) (cellsFrom (s.heap.objs.size+1) scope.names []) (bindC (envOfC R scope s.heap.objs.size f T).kindOf (ps.zip us) λ_=>none) U):
  Inv (fU CX P w K mg base N R scope f T A outer s H E) [] (start N vs) H U:=by
 have O :=by have:=congrArg List.length S.pre;rw[List.length_take] at this;omega
 obtain⟨h1,tk,rfl,I⟩:=x.done
 have j:∀b ,b∉(fU CX P w K mg base N R scope f T A outer s H E).ex:=λb z=>absurd (show b∈[] from z) (by simp)
 refine⟨⟨d.mod,S.kind,rfl,rfl,zc _,λy z c h1 h2=>?_,λy m=>?_,λy c _ h=>?_,λ_=>hd,Around.frames_deeper d.frames,.inr ⟨rfl,rfl⟩,λb z=>absurd z (j b),d.bs,d.bsz,λb _ _=>j b,λb z=>absurd z (j b),d.funs,d.frf⟩,
  rfl,d.bare,Un.kept I,⟨_,x.toInCall.ns,λi y v h1 h2 h3=>?_⟩,λy c h=>⟨_,x.cell y c h⟩,d.hok.fresh (zc _),λy c h=>?_,λp t=>absurd (show p∈[] from t) (by simp),d.hok.kept I,?_⟩
 ·exact name_of_addr x.apart (PySem.mem_of_lookup h1) (PySem.mem_of_lookup h2)
 ·rcases m with m | m
  ·exact Dw m
  ·exact absurd rfl (S.nofree _ (PySem.mem_of_lookup m))
 ·exact Nat.le_of_lt (x.above y c (PySem.mem_of_lookup h))
 ·have F:i<vs.length:=by
   unfold start at h2
   by_cases F:i<vs.length
   ·exact F
   ·rw[zL (by simpa using F)] at h2;rw[List.getElem?_replicate] at h2
    split at h2<;>cases h2
  have L:vs[i]?=some v:=by
   unfold start at h2;rw[zF (by simpa ),zC] at h2
   cases e:vs[i]? with
   |none=>rw[e] at h2;cases h2
   |some a=>rw[e] at h2;cases h2;rfl
  obtain⟨u,G,J⟩:=r.get L
  have t:ps[i]?=some y:=by
   rw[<-S.pre,List.getElem?_take_of_lt (by omega)];exact h1
  have C:ps.Nodup:=by rw[<-S.pre];exact S.nd.sublist (List.take_sublist _ _)
  refine⟨u,J,?_⟩
  rcases S.par y (zJ t) with k | k
  ·exact .inl ⟨k,Dt C t G k⟩
  ·obtain⟨c,e⟩:=Dw k;refine .inr ⟨.inl k,c,e,?_⟩;have q:=x.cell y c e;rw[Dv C t G (by show scope.names.lookup y≠_;rw[k];decide)] at q;exact q
 ·exact d.hok.fresh (Nat.le_of_lt (x.above y c (PySem.mem_of_lookup h)))
 ·unfold start;show _=N.length;rw[ze,zf,List.length_replicate];omega
def wA    {K:PySem.W.Frag}         {kV:Value}
       (lk:K.lookup f=some ⟨oc,od,.func (PySem.W.fnOf name qual params body scope dV kV doc pm an cdv ct),osl⟩) (U:PySem.W.codeIn K cdv qual=true) (S:dZ N ps scope)
  (len:∀vs H Q E,sp vs H Q E->vs.length=ps.length)
  (C:∀(A:Around) (outer:List Env) (s:Shared) (H:Hp) (vs:List V) (Q:VK) (E:XK),aW k (A.deeper (envOfC qual scope s.heap.objs.size f cdv))->sp vs H Q E ->
   ∃t,PSs (fU CX P w K mg base N qual scope f cdv A outer s H E) body t/\t {nx:=λ_ j=>Q .non j,rt:=Q} (start N vs) H):
  cz P w K mg base CX (k+1) f (PySem.W.fnOf name qual params body scope dV kV doc pm an cdv ct) ps sp:=by
 refine⟨len,λA outer s H args Z vs Q E R F hb r G=>?_⟩;have hl:=len _ _ _ _ G
 have Y:K.In s.heap:=F.mod.kin.keeps λb o e=>(F.bs b o e).1
 have T:s.heap.NoLimit:=F.mod.nolimit.keeps λb o e=>(F.bs b o e).1
 have m:∀y∈ps.zip Z,scope.names.lookup y.1=some .local\/(scope.names.lookup y.1=some .cell/\((cellsFrom (s.heap.objs.size+1) scope.names []).lookup y.1).isSome=true):=λ⟨n,v⟩ hy=>by
  rcases S.par n (List.of_mem_zip hy).1 with q | q
  ·exact .inl q
  ·exact .inr ⟨q,PySem.W.cellsFrom_some _ _ _ (.inl q)⟩
 refine codeAny_call_function R.depth (Y _ _ lk) rfl S.co S.gen rfl (PySem.W.codeRec_of Y U) (hb _ _ _ _ ?_)
 refine wpAny_newFunctionEnv_cells S.kind m λenv he X x=>?_
 subst he;refine⟨T.keeps x.toInCall.keep,codeAny_func ?_⟩;obtain⟨t,ht,hq⟩:=C A outer s H vs Q E (R.deeper _) G;have I:Inv (fU CX P w K mg base N qual scope f cdv A outer s H E) [] (start N vs) H X:=R6 S R.hd F hl r x
 refine zT (ht [] X (start N vs) H _ I hq) (λfl L hs=>?_) λe L hs=>hs
 have fin:∀{d:St}{j:Hp}{v:V}{u:Value},Inv (fU CX P w K mg base N qual scope f cdv A outer s H E) [] d j L->RelV v u->Q v j->CE outer P w H s Q u L :=
  λ{d j v u} J O q=>⟨v,j,J.os,J.bare,J.base,J.hok,O,q⟩
 cases fl with
 |ret u =>
  obtain⟨v,d,j,J,O,q⟩:=hs;exact fin J O q
 |next =>
  obtain⟨d,j,J,q⟩:=hs;exact fin (v:=V.non) (u:=Value.none) J rfl q
 |brk =>
  obtain⟨_,_,_,q⟩:=hs;exact False.elim q
 |cont =>
  obtain⟨_,_,_,q⟩:=hs;exact False.elim q
def tCB(r:List V->Hp->VK->Prop)(t:TA):TE:=λσ H Q=>t σ H λd f=>r d f Q
def wB{p d:Pos}{m:String}(F:cZ X (.builtin m) r)(C:Gl X x)(y:X.mg x=none)(hv:bootBuiltins x=some (.builtin m))(G:PA X (e::es) t)(u:x≠"__name__":=by decide)(j:(x == ("__debug__":Str))=false:=by decide)
  (E:starEach (e::es) X.env=(false,eval e X.env)::starEach es X.env:=by rfl) (f:(backTo d (starEach es X.env)).any (·.1)=false:=by rfl):PE X (.Call (.Name x p) (e::es) [] d) (tCB r t):=by
 intro pins s σ H Q I h;refine wpAny_Call_Name_kw (jZ I C y hv ?_ u j);exact PyProof.Rows.callWith_builtin1 (thn (G d pins s σ H _ I h) λus s1 ⟨vs,H1,I1,r1,q1⟩=>F pins s1 σ H1 vs us Q I1 r1 q1) E f
def rT{p d:Pos}(E:cZ X (.type T) r)(y:Gl X x)(u:X.mg x=none)(hv:bootBuiltins x=some (.type T))(F:PA X (e::es) t)(m:x≠"__name__":=by decide)(j:(x == ("__debug__":Str))=false:=by decide)
  (C:starEach (e::es) X.env=(false,eval e X.env)::starEach es X.env:=by rfl) (f:(backTo d (starEach es X.env)).any (·.1)=false:=by rfl):PE X (.Call (.Name x p) (e::es) [] d) (tCB r t):=by
 intro pins s σ H Q I h;refine wpAny_Call_Name_kw (jZ I y u hv ?_ m j);exact PyProof.Rows.callWith_type1 (thn (F d pins s σ H _ I h) λus s1 ⟨vs,H1,I1,r1,q1⟩=>E pins s1 σ H1 vs us Q I1 r1 q1) C f
end L2
namespace HT
open PySem PyProof.Rows
section
open PySem.SeqAt
open PySem.AutoSeq1 (wpAny_loadPart')
open PySem.MeetsSeq PySem.MeetsSeq2 PySem.MeetsSeq3
end
def cat_tup    (L:IsTup s.heap t vs.toArray)(hb:IsTup s.heap b O.toArray)(hv:vs≠[])
  (h1:O=[]->Q (.ref t) s) (h2:O≠[]->Q (.ref s.heap.objs.size) {s with heap:=s.heap.push {cls:=.type "tuple",data:=.seq (vs++O).toArray}})
  (hsz:vs.length+O.length<=sizeLine):wpAny (model prog w) A (binaryOp .Add (.ref t) (.ref b)) Q E s:=by
 obtain⟨⟨cls,I,data,sl⟩,y,G,n,hd⟩:=id L;obtain⟨⟨J,u,data2,f⟩,d,m,C,j⟩:=id hb;simp only at G hd m j;subst G hd m j
 have e:vs.toArray++O.toArray=(vs++O).toArray:=by simp
 by_cases x:O=[]
 ·exact concat_meets ⟨_,y,rfl⟩ ⟨_,d,rfl⟩ noFill_tuple_add seq_tuple_add PySem.F.slot_tuple_add PySem.F.entry_tuple_add (PySem.F.args_tuple_add_2 _ _)
   (tuple_addW1 t b vs.toArray O.toArray n C I u sl f (by simpa using hv) (by simp[x])) ⟨y,d,h1 x⟩
 ·refine concat_meets ⟨_,y,rfl⟩ ⟨_,d,rfl⟩ noFill_tuple_add seq_tuple_add PySem.F.slot_tuple_add PySem.F.entry_tuple_add (PySem.F.args_tuple_add_2 _ _)
   (tuple_addW2 t b vs.toArray O.toArray n C I u sl f (by simpa using hv) (by simpa using x) (by rw[zI,zI];exact hsz)) ⟨y,d,?_⟩
  rw[e];exact h2 x
def sIx(n d:Nat):Option Int->Nat
 |none=>d
 |some v=>if v<0 then(v+(n:Int)).toNat else min v.toNat n
def sIx_none(n d:Nat):sIx n d none=d:=rfl
def sIx_nat(n d k:Nat):sIx n d (some (k:Int))=min k n:=by
 show(if k<0 then k+(n:Int).toNat else min _ n)=min k n;rw[if_neg (by omega),Int.toNat_natCast]
def sIx_le(n d:Nat)(hd:d<=n)(o:Option Int):sIx n d o<=n:=by
 cases o with
 |none=>exact hd
 |some v =>
  show(if v<0 then(v+n).toNat else min _ n)<=n
  by_cases f:v<0
  ·rw[if_pos f];omega
  ·rw[if_neg f];exact Nat.min_le_right _ _
def Dy(v:Int)(n d:Nat):(if v<0 then max (v+(n:Int)) 0 else min v (n:Int))=((sIx n d (some v):Nat):Int):=by
 show(if v<0 then max _ 0 else min v n)=(if v<0 then(v+(n:Int)).toNat else min v.toNat n)
 by_cases f:v<0
 ·simp only[if_pos f];omega
 ·simp  [if_neg f];omega
def R7(lo d:Option Int)(n:Nat):Builtin.Slice.sliceAdjust lo d 1 (n:Int)=(((sIx n 0 lo:Nat):Int),((sIx n n d:Nat):Int)):=by
 refine Prod.ext ?_ ?_
 ·cases lo with
  |none=>rfl
  |some v=>exact Dy v n 0
 ·cases d with
  |none=>rfl
  |some v=>exact Dy v n n
def R8(i j:Nat):Builtin.Slice.slicePlaces (i:Int) (j:Int) 1=j - i:=by
 unfold Builtin.Slice.slicePlaces
 split<;>omega
def Dz    (p:IsPart v o)(h:Q o s):wpAny (model prog w) A (Builtin.Slice.slicePartIndex v) Q E s:=by
 cases p with
 |none=>exact slicePart_none h
 |int =>exact slicePart_int h
def sliceApplied_gen   {lo:Option Int}{n:Nat}  (hs:s.heap.IsSliceOf sl vl u .none)(pl:IsPart vl lo)(j:IsPart u t)
  (h:Q (((sIx n 0 lo:Nat):Int),1,sIx n n t - sIx n 0 lo) s):wpAny (model prog w) A (Builtin.Slice.sliceApplied (.ref sl) (pure (n:Int))) Q E s:=by
 obtain⟨os,d,m,f⟩:=id hs;refine za (za (wpAny_field d f rfl (za (wpAny_field d f rfl (za (wpAny_field d f rfl (zb ?_)))))));refine za (slicePart_none ?_);refine za (Dz pl (za (Dz j (za (zb ?_)))));show wpAny _ _ (match Builtin.Slice.sliceAdjust lo t 1 n with | (lo,t)=>pure (lo,(1:Int),Builtin.Slice.slicePlaces lo t 1)) _ _ s;rw[R7 ];show wpAny _ _ (pure _) _ _ s;rw[R8];exact zb h
def R9(xs:Array Value)(i k:Nat):((List.range k).filterMap λ(m:Nat)=>xs[((i:Int)+(m:Int) * 1).toNat]?).toArray=((xs.toList.drop i).take k).toArray:=by
 have e:(λ(m:Nat)=>xs[(i+(m:Int) * 1).toNat]?)=λm=>xs[i+m]?:=by
  funext m
  have:((i:Int)+m * 1).toNat=i+m:=by omega
  rw[this]
 rw[e]
 have:=pick_run xs i k
 rw[List.filterMap_map] at this
 have d:((λx=>xs[x]?) ∘ λx=>i+x)=λm=>xs[i+m]?:=rfl
 rw[d] at this;rw[this]
def getItem_tuple_cut    {lo:Option Int}  (f:IsTup s.heap t items)(hs:s.heap.IsSliceOf sl vl L .none)(pl:IsPart vl lo)(y:IsPart L J)
  (C:¬(sIx items.size 0 lo=0/\sIx items.size items.size J=items.size))
  (h:Q (.ref s.heap.objs.size) {s with heap:=s.heap.push {cls:=.type "tuple",data:=.seq ((items.toList.drop (sIx items.size 0 lo)).take (sIx items.size items.size J - sIx items.size 0 lo)).toArray}})
  (hsz:items.size<=sizeLine):wpAny (model prog w) A (getItem (.ref t) (.ref sl)) Q E s:=by
 have d :=by
  show((items.toList.drop (sIx items.size 0 lo)).take (sIx items.size items.size J - sIx items.size 0 lo)).toArray.size<=sizeLine;rw[zI,List.length_take,List.length_drop,Array.length_toList];omega
 obtain⟨os,j,u,F⟩:=id hs;have x:s.TypeIs (.ref sl) "slice":=⟨os,j,u⟩;unfold getItem
 try with_reducible refine zS ?_
 refine za (wpAny_sequenceKey f.typeIs (by decide) ?_)
 refine za (wpAny_callSpecial?_slot f.typeIs PyProof.Rows.slot_tuple_getitem
  (wpAny_call_entry PyProof.Rows.slot_tuple_getitem f.typeIs entry_tuple_getitem ?_))
 show wpAny _ _ (Builtin.Tuple.tupleItemsOf (.ref t) >>= _) _ _ s;refine za (tupleItemsOf_ f ?_);refine za (wpAny_typeOf x ?_);refine za (sliceApplied_gen hs pl y ?_)
 have m:¬((((sIx items.size 0 lo:Nat):Int) == 0&&(1:Int) == 1&&(sIx items.size items.size J - sIx items.size 0 lo) == items.size)=true):=by
  intro q;rw[zD,zD] at q;have I :=eq_of_beq q.1.1;have G :=eq_of_beq q.2;exact C ⟨by omega,by omega⟩
 show wpAny _ _ (if(((sIx items.size 0 lo:Nat):Int) == 0&&(1:Int) == 1&&(sIx items.size items.size J - sIx items.size 0 lo) == items.size)=true then _ else _) _ _ s;rw[if_neg m,R9]
 first
  | exact za (wpAny_newObj_type (zb ⟨_,rfl,zb h⟩) d)
  | exact za
  | exact za
  | exact za
end HT
namespace L2
open PySem PySem.Spec PyProof.Rows
abbrev TO:=St->Hp->(Option Int->Hp->Prop)->Prop
def PO(X:Cx)(e:Option Expr)(t:TO):Prop :=
 ∀(pins:List (Addr×Obj)) (s:Shared) (σ:St) (H:Hp) (Q:Option Int->Hp->Prop),Inv X pins σ H s->t σ H Q ->
  wpAny (model X.prog X.w) X.A (evalPart e X.env) (λu f=>∃o d,Inv X pins σ d f/\IsPart u o/\Q o d) X.xe s
def Sd:TO:=λ_ H Q=>Q none H
def Sg(t:TE):TO:=λσ H Q=>t σ H λx d=>∃i,x=.int i/\Q (some i) d
def intsAre_of :∀{us:List Value},aF (ns.map V.int) us->IntsAre us ns:=by
 induction ns with
 |nil=>intro us r;cases r;exact .nil
 |cons n ns ih =>
  intro us r
  cases r with
  |cons r1 r2 =>
   obtain⟨t,e⟩:=r1;subst e;exact .cons n t (ih r2)
section
variable {X:Cx}{e:Expr}{te:TE}{lo hi:Option Expr}{tl th:TO}{pos p2:Pos}
def Sh:PO X none Sd:=by
 intro pins s σ H Q I h;exact zb ⟨none,H,I,.none,h⟩
def Sq(h:PE X e te):PO X (some e) (Sg te):=by
 intro pins s σ H Q I d
 refine thn (h _ s σ H _ I d) λu s1 ⟨x,H1,I1,r1,q1⟩=>?_
 obtain⟨i,rfl,q⟩:=q1;obtain⟨t,rfl⟩:=r1;exact⟨some i,H1,I1,.int i t,q⟩
def SlR(X:Cx)(r:V->Option Int->Option Int->Hp->VK->Prop):Prop :=
 ∀(pins:List (Addr×Obj)) (s:Shared) (σ:St) (H:Hp) (x:V) (v vl d:Value) (lo hi:Option Int) (sl:Addr) (Q:VK),Inv X pins σ H s->RelV x v->s.heap.IsSliceOf sl vl d .none->IsPart vl lo->IsPart d hi->r x lo hi H Q ->
  ∃T f,typeLookup (.type T) "__getitem__" = pure (some (.builtin f))/\s.TypeIs v T/\wpAny (model X.prog X.w) X.A (getItem v (.ref sl)) (EP X pins σ Q) X.xe s
def SlR.or{r j:V->Option Int->Option Int->Hp->VK->Prop}(h:SlR X r)(h':SlR X j):SlR X (λx lo hi H Q=>r x lo hi H Q\/j x lo hi H Q):=by
 intro pins s σ H x v vl d lo hi sl Q I f hs pl m q
 rcases q with q | q
 ·exact h pins s σ H x v vl d lo hi sl Q I f hs pl m q
 ·exact h' pins s σ H x v vl d lo hi sl Q I f hs pl m q
def tSl(r:V->Option Int->Option Int->Hp->VK->Prop)(te:TE)(tl th:TO):TE:=λσ H Q=>te σ H λx j=>tl σ j λl f=>th σ f λu d=>r x l u d Q
def Ss{lo:Option Expr}  (j:SlR X r)(y:PE X e te)(m:PO X lo tl)(d:PO X hi th):PE X (.Subscript e (.Slice lo hi none p2) pos) (tSl r te tl th):=by
 intro pins s σ H Q I h;refine Subscript_ (thn (y pins s σ H _ I h) λv s1 ⟨x,H1,I1,r1,q1⟩=>?_);refine wpAny_Slice (thn (m pins s1 σ H1 _ I1 q1) λvl s2 ⟨l,H2,I2,pl,q2⟩=>thn (d pins s2 σ H2 _ I2 q2) λvu s3 ⟨u,H3,I3,pu,q3⟩=>?_);rw[evalPart_none];refine zb ?_
 have E:Inv X pins σ H3 {s3 with heap:=s3.heap.push {cls:=.type "slice",data:=.fields #[vl,vu,.none]}}:=I3.kept (t':=s3.toks) λb ob q=>zo _ q
 obtain⟨T,F,C,f,t⟩:=j pins {s3 with heap:=s3.heap.push {cls:=.type "slice",data:=.fields #[vl,vu,.none]}} σ H3 x v vl vu l u s3.heap.objs.size Q E r1 (Heap.IsSliceOf.new ..) pl pu q3;show wpAny (model X.prog X.w) X.A (subscriptTail e (.Slice lo hi none p2) v (.ref s3.heap.objs.size)) (EP X pins σ Q) X.xe {s3 with heap:=s3.heap.push {cls:=.type "slice",data:=.fields #[vl,vu,.none]}};exact tail_any (ops:=[.ref s3.heap.objs.size,v]) f C t (by with_unfolding_all rfl)
def lL(xs:List V)(lo hi:Option Int):List V:=(xs.drop (HT.sIx xs.length 0 lo)).take (HT.sIx xs.length xs.length hi - HT.sIx xs.length 0 lo)
def DG(xs:List V)(lo hi:Option Int):(lL xs lo hi).length<=xs.length:=by
 unfold lL;rw[List.length_take,List.length_drop];omega
def Su(K:PySem.W.Frag):V->Option Int->Option Int->Hp->VK->Prop:=λx lo hi H Q=>∃a d,x=.ref a/\SqT K H a d /\
 ¬(HT.sIx d.length 0 lo=0/\HT.sIx d.length d.length hi=d.length)/\∀p,H p=none->Q (.ref p) (upd H p (.tup (lL d lo hi)))
def Sw:SlR X (Su X.K):=by
 intro pins s σ H x v vl C lo hi sl Q I t hs pl u h;obtain⟨a,f,rfl,hx,y,q⟩:=h;cases t;obtain⟨d,r,m,j⟩:=I.tuple hx
 have hlen:d.toArray.size=f.length:=by exact r.length.symm
 refine⟨"tuple",_,PyProof.Rows.slot_tuple_getitem.lookup,m.typeIs,?_⟩;refine HT.getItem_tuple_cut m hs pl u (by rw[hlen];exact y) ?_ (by rw[hlen];exact j);rw[hlen];refine⟨.ref _,_,I.laid (λb ob q=>zo _ q) (zc _) ?_,rfl,q _ (I.hok.fresh (zc _))⟩;exact⟨zN (DG f lo hi) j,_,(r.drop _).take _,IsTup.new _ _⟩
def Sx(K:PySem.W.Frag):R2:=λx y H Q=>∃a b f d,x=.ref a/\y=.ref b/\SqT K H a f/\SqT K H b d/\f≠[]/\f.length+d.length<=sizeLine /\
 (d=[]->Q (.ref a) H)/\(d≠[]->∀p,H p=none->Q (.ref p) (upd H p (.tup (f++d))))
def aF.nil_iff   (r:aF xs us):us=[]↔xs=[]:=by
 cases r with
 |nil=>simp
 |cons _ _=>simp
def Sy:OpR X (binaryOp .Add) (Sx X.K):=by
 intro pins s σ H x y v u Q I C t h;obtain⟨a,b,R,P,rfl,rfl,L,J,hx,j,F,E⟩:=h;cases C;cases t;obtain⟨O,f,G,_⟩:=I.tuple L;obtain⟨m,d,p2,_⟩:=I.tuple J;refine HT.cat_tup G p2 (λz=>hx (f.nil_iff.mp z)) (λz=>⟨.ref a,H,I,rfl,F (d.nil_iff.mp z)⟩) (λz=>?_) (by rw[<-f.length,<-d.length];exact j);refine⟨.ref _,_,I.laid (λb ob q=>zo _ q) (zc _) ?_,rfl,E (λw=>z (d.nil_iff.mpr w)) _ (I.hok.fresh (zc _))⟩;exact⟨by rw[ze];exact j,_,f.append d,IsTup.new _ _⟩
end
def ixN(n:Nat)(i:Int):Option Nat:=if 0<=i then(if i<n then some i.toNat else none) else if -(n:Int)<=i then some (i+n).toNat else none
def atI{α:Type}(xs:List α)(i:Int):Option α:=(ixN xs.length i).bind λj=>xs[j]?
def SJ    (h:ixN n i=some j):seqIndex? i n=some j/\j<n/\-(n:Int)<=i/\i<n:=by
 unfold ixN at h
 by_cases h0:0<=i
 ·rw[if_pos h0] at h
  by_cases h1:i<n
  ·rw[if_pos h1] at h;have e :=zE h;exact⟨by rw[seqIndex_of h0 h1,e],by omega⟩
  ·rw[if_neg h1] at h;cases h
 ·rw[if_neg h0] at h
  by_cases h1:-n<=i
  ·rw[if_pos h1] at h;have e :=zE h;exact⟨by rw[seqIndex_neg (by omega) h1,e],by omega⟩
  ·rw[if_neg h1] at h;cases h
def wC     (h:atI xs i=some v):∃j,seqIndex? i xs.length=some j/\xs[j]?=some v/\j<xs.length/\-(xs.length:Int)<=i/\i<xs.length:=by
 unfold atI at h
 cases e:ixN _ i with
 |none=>rw[e] at h;cases h
 |some j =>
  rw[e] at h;obtain⟨h1,h2,h3,h4⟩:=SJ e;exact⟨j,h1,h,h2,h3,h4⟩
def rY(b:Expr):Prop:=∀o i,subscripted b false o i=operate [o,i] (getItem o i)
def IxR(X:Cx)(r:R2):Prop :=
 ∀(value slice:Expr) (pins:List (Addr×Obj)) (s:Shared) (σ:St) (H:Hp) (x y:V) (v u:Value) (Q:VK),Inv X pins σ H s->RelV x v->RelV y u->r x y H Q ->
  subscripted slice false v u=operate [v,u] (getItem v u)->wpAny (model X.prog X.w) X.A (subscriptTail value slice v u) (EP X pins σ Q) X.xe s
def MtR(X:Cx)(j:String)(r:V->List V->Hp->VK->Prop):Prop :=
 ∀(pins:List (Addr×Obj)) (s:Shared) (σ:St) (H:Hp) (x:V) (d:List V) (v:Value) (f:List Value) (Q:VK),Inv X pins σ H s->RelV x v->aF d f->r x d H Q ->
  wpAny (model X.prog X.w) X.A (call (.builtin j) (v::f)) (EP X pins σ Q) X.xe s
section
variable {X:Cx}{a b:Expr}{ta tb:TE}{pos:Pos}
def IxR.or{r j:R2}(h:IxR X r)(h':IxR X j):IxR X (λx y H Q=>r x y H Q\/j x y H Q):=by
 intro value slice pins s σ H x y v u Q I f d q hs
 rcases q with q | q
 ·exact h value slice pins s σ H x y v u Q I f d q hs
 ·exact h' value slice pins s σ H x y v u Q I f d q hs
def MtR.or{d:String}{r t:V->List V->Hp->VK->Prop}(h:MtR X d r)(h':MtR X d t):MtR X d (λx xs H Q=>r x xs H Q\/t x xs H Q):=by
 intro pins s σ H x xs v f Q I j m q
 rcases q with q | q
 ·exact h pins s σ H x xs v f Q I j m q
 ·exact h' pins s σ H x xs v f Q I j m q
def SM  (m:IxR X r)(t:PE X a ta)(hb:PE X b tb)(hs:rY b):PE X (.Subscript a b pos) (tOp r ta tb):=by
 intro pins s σ H Q I h;exact Subscript_ (vV t hb I h λv u d x y E C j f q=>m a b pins d σ E x y v u Q C j f q (hs _ _))
def SN(K:PySem.W.Frag):R2:=λx y H Q=>∃p d i v,x=.ref p/\y=.int i/\SqL K H p d/\atI d i=some v/\Q v H
def SQ(K:PySem.W.Frag):R2:=λx y H Q=>∃p d i v,x=.ref p/\y=.int i/\SqT K H p d/\atI d i=some v/\Q v H
def SX:R2:=λx y H Q=>∃z i c,x=.str z/\y=.int i/\z.length<=sizeLine/\atI z.cps.toList i=some c/\Q (.str ⟨#[c]⟩) H
def S5:IxR X (SN X.K):=by
 intro value slice pins s σ H x y v u Q I E C h hs;obtain⟨p,O,i,z,rfl,rfl,F,J,q⟩:=h;cases E;obtain⟨t,rfl⟩:=C;obtain⟨m,r,pl,P⟩:=I.list F;obtain⟨j,h1,h2,h3,h4,L⟩:=wC J;obtain⟨w,T,f⟩:=r.get h2;have G:=r.length;have R:=rQ;have fin:EP X _ σ Q w s:=⟨z,H,I,f,q⟩
 by_cases h0:0<=i
 ·have d :=by
   rw[seqIndex_of h0 L] at h1;exact zE h1
  exact item_listR pl.isList h0 (by omega) (by rw[d];simpa ) fin hs
 ·have d:(i+m.toArray.size).toNat=j:=by
   rw[seqIndex_neg (by omega) h4] at h1;rw[zI,<-G];exact zE h1
  exact subscriptTail_builtinR pl.isList.typeIs slot_list_getitem.lookup
   (wpAny_getItem_list_neg pl.isList (by omega) (by rw[zI]<;>omega) (by omega) (by rw[d];simpa ) ⟨rfl,fin⟩) hs
def S6:IxR X (SQ X.K):=by
 intro value slice pins s σ H x y v u Q I m f h hs;obtain⟨p,J,i,z,rfl,rfl,C,F,q⟩:=h;cases m;obtain⟨t,rfl⟩:=f;obtain⟨G,r,pl,L⟩:=I.tuple C;obtain⟨j,h1,h2,P⟩:=wC F;obtain⟨w,R,d⟩:=r.get h2;have E:=r.length;have O:=rQ;have fin:EP X _ σ Q w s:=⟨z,H,I,d,q⟩;exact subscriptTail_builtinR pl.typeIs slot_tuple_getitem.lookup
  (getItem_tuple pl (by omega) (by omega) (by rw[zI,<-E];exact h1) (by simpa ) ⟨rfl,fin⟩) hs
def S7:IxR X SX:=by
 intro value slice pins s σ H x y v u Q I f d h hs;obtain⟨z,i,c,rfl,rfl,L,C,q⟩:=h;obtain⟨t,rfl⟩:=f;obtain⟨J,rfl⟩:=d;obtain⟨j,h1,h2,h4,E⟩:=wC C
 have m:z.cps.toList.length=z.length:=by simp[Str.length]
 rw[m] at h1 h4 E;have O:=rQ
 exact tail_any (typeIs_str s z t) slot_str_getitem.lookup (getItem_str (by
  have G:decide (i < -2 ^ 63)=false:=zq (by omega);have F:decide (i>=2 ^ 63)=false:=zq (by omega)
  rw[G,F,Bool.or_false]) (by rw[h1];simpa using h2) ⟨.str _,H,I.tok _,⟨_,rfl⟩,q⟩) hs
def Inv.lst{X:Cx}{pins:List (Addr×Obj)}{σ:St}{H:Hp}{s:Shared}{p:Addr}{xs:List V}(I:Inv X pins σ H s)(h:H p=some (.lst xs)):
  ∃(d:List Value) (n:Nat),aF xs d/\s.heap.get? p=some {cls:=.type "list",data:=.seq d.toArray n}/\xs.length<=sizeLine:=by
 obtain⟨z,d,n,r,e⟩:=I.hok p _ h;exact⟨d,n,r,e,z⟩
def DK(lo d:Option Int)(n:Nat):(sliceBounds lo d none n).1=((HT.sIx n 0 lo:Nat):Int)/\(sliceBounds lo d none n).2.1=((HT.sIx n n d:Nat):Int)/\(sliceBounds lo d none n).2.2=1:=by
 refine⟨?_,?_⟩
 ·cases lo with
  |none=>simp[sliceBounds,HT.sIx]
  |some i =>
   simp  [sliceBounds,HT.sIx,if_true]
   by_cases h:i<0
   ·simp  [h]<;>omega
   ·simp  [h]<;>omega
 ·cases d with
  |none=>simp[sliceBounds,HT.sIx]
  |some i =>
   simp  [sliceBounds,HT.sIx,if_true]
   by_cases h:i<0
   ·simp  [h]<;>omega
   ·simp  [h]<;>omega
def S8(d:List Value)(lo f:Option Int):slicePick d.toArray lo f none=((d.drop (HT.sIx d.length 0 lo)).take (HT.sIx d.length d.length f - HT.sIx d.length 0 lo)).toArray:=by
 obtain⟨h1,h2,h3⟩:=DK lo f _;unfold slicePick;rw[h1,h2,h3]
 simp only[sliceRange_one,pick_run]<;>rfl
def S9(K:PySem.W.Frag):V->Option Int->Option Int->Hp->VK->Prop:=λx lo f H Q=>∃a d,x=.ref a/\SqL K H a d/\∀p,H p=none->Q (.ref p) (upd H p (.lst (lL d lo f)))
def Tc:SlR X (S9 X.K):=by
 intro pins s σ H x v vl C lo u sl Q I j hs pl m h;obtain⟨a,f,rfl,hx,q⟩:=h;cases j;obtain⟨y,r,d,t⟩:=I.list hx;have hlen:=r.length;refine⟨"list",_,slot_list_getitem.lookup,d.isList.typeIs,?_⟩;refine wpAny_getItem_list_slice d.isList hs pl m .none (by simp) ?_;rw[S8,<-hlen];refine⟨.ref _,_,I.laid (λb ob q=>zo _ q) (zc _) ?_,rfl,q _ (I.hok.fresh (zc _))⟩;exact⟨zN (DG f lo u) t,_,0,(r.drop _).take _,zy _ rfl⟩
def ir:V->Bool
 | .non=>true
 | .bl _=>true
 | .int _=>true
 | .str _=>true
 | _=>false
def eqV:V->V->Bool
 | .non,.non=>true
 | .bl a,.bl b=>a == b
 | .bl a,.int b=>(if a then 1 else 0) == b
 | .int a,.bl b=>a == (if b then 1 else 0)
 | .int a,.int b=>a == b
 | .str a,.str b=>a == b
 | _,_=>false
def Td     (j:RelV y u)(d:RelV x v)(C:ir y=true)(m:ir x=true):SeqAt.EqAt A s u v (eqV y x):=by
 cases y with
 |non =>
  cases j
  cases x with
  |non=>cases d;exact SeqAt.EqAt.same _
  |bl b=>cases d;exact SeqAt.EqAt.none_bool b
  |int b=>obtain⟨t,rfl⟩:=d;exact SeqAt.EqAt.none_int b t
  |str b=>obtain⟨t,rfl⟩:=d;exact SeqAt.EqAt.none_str b t
  | _=>exact absurd (show false=true from m) zA
 |bl a =>
  cases j
  cases x with
  |non=>cases d;exact SeqAt.EqAt.bool_none a
  |bl b=>cases d;exact SeqAt.EqAt.bool_bool a b
  |int b=>obtain⟨t,rfl⟩:=d;exact SeqAt.EqAt.bool_int a b t
  |str b=>obtain⟨t,rfl⟩:=d;exact SeqAt.EqAt.bool_str a b t
  | _=>exact absurd (show false=true from m) zA
 |int a =>
  obtain⟨f,rfl⟩:=j
  cases x with
  |non=>cases d;exact SeqAt.EqAt.int_none a f
  |bl b=>cases d;exact SeqAt.EqAt.int_bool a f b
  |int b=>obtain⟨t,rfl⟩:=d;exact SeqAt.EqAt.int_int a f b t
  |str b=>obtain⟨t,rfl⟩:=d;exact SeqAt.EqAt.int_str a f b t
  | _=>exact absurd (show false=true from m) zA
 |str a =>
  obtain⟨f,rfl⟩:=j
  cases x with
  |non=>cases d;exact SeqAt.EqAt.str_none a f
  |bl b=>cases d;exact SeqAt.EqAt.str_bool a f b
  |int b=>obtain⟨t,rfl⟩:=d;exact SeqAt.EqAt.str_int a f b t
  |str b=>obtain⟨t,rfl⟩:=d;exact SeqAt.EqAt.str_str a f b t
  | _=>exact absurd (show false=true from m) zA
 | _=>exact absurd (show false=true from C) zA
def eqU(x:V)(u:Value):Bool:=match u with
 | .none=>eqV .non x
 | .bool b=>eqV (.bl b) x
 | .int i _=>eqV (.int i) x
 | .str z _=>eqV (.str z) x
 | _=>false
def DN   (r:RelV y u)(f:ir y=true):eqU x u=eqV y x:=by
 cases y with
 | non
 | bl b
 | int i
 |str z=>obtain⟨t,rfl⟩:=r;rfl
 | _=>exact absurd (f) zA
theorem pN :∀{xs:List V}{us:List Value},aF xs us->xs.all ir=true->us.any (eqU x)=xs.any λy=>eqV y x
 | _,_,.nil,_=>rfl
 |y::xs,u::us,.cons r t,f=>by
  rw[List.all_cons,zD] at f;rw[List.any_cons,List.any_cons,DN r f.1,pN t f.2]
theorem pO  {s:Shared}{x:V}{v:Value}(j:RelV x v)(m:ir x=true):∀{xs:List V}{us:List Value},aF xs us->xs.all ir=true->∀u∈us,SeqAt.EqAt A s u v (eqU x u)
 | _,_,.nil,_=>λu d=>by cases d
 |y::xs,u::us,.cons r t,f=>λC d=>by
  rw[List.all_cons,zD] at f
  rcases zk.mp d with rfl | d
  ·rw[DN r f.1];exact Td r j f.1 m
  ·exact pO j m t f.2 C d
def inV(x:V)(xs:List V):Bool:=xs.any λy=>eqV y x
def rIn(K:PySem.W.Frag)(f:Bool):R2:=λx y H Q=>∃p d,y=.ref p/\(SqL K H p d\/SqT K H p d)/\ir x=true/\d.all ir=true/\Q (.bl (if f then !inV x d else inV x d)) H
def Te:OpR X (compareOp .In) (rIn X.K false):=by
 intro pins s σ H x y v u Q I m C h;obtain⟨p,F,rfl,f,t,fs,q⟩:=h;cases C
 rcases f with f | f
 ·obtain⟨d,r,pl,E⟩:=I.list f;refine SeqAt.in_listAt _ pl.isList (λw j=>pO m t r fs w (by simpa using j)) ⟨.bl _,H,I,rfl,?_⟩;rw[show d.toArray.any _=d.any (eqU x) by simp,pN r fs];exact q
 ·obtain⟨d,r,pl,E⟩:=I.tuple f;refine SeqAt.in_tupleAt _ pl (λw j=>pO m t r fs w (by simpa using j)) ⟨.bl _,H,I,rfl,?_⟩;rw[show d.toArray.any _=d.any (eqU x) by simp,pN r fs];exact q
def Tf:OpR X (compareOp .NotIn) (rIn X.K true):=by
 intro pins s σ H x y v u Q I m C h;obtain⟨p,F,rfl,f,t,fs,q⟩:=h;cases C
 rcases f with f | f
 ·obtain⟨d,r,pl,E⟩:=I.list f;refine SeqAt.notIn_listAt (eqU x) pl.isList (λw j=>pO m t r fs w (by simpa using j)) ⟨.bl _,H,I,rfl,?_⟩;rw[show d.toArray.any (eqU x)=d.any (eqU x) by simp,pN r fs];exact q
 ·obtain⟨d,r,pl,E⟩:=I.tuple f;refine SeqAt.notIn_tupleAt (eqU x) pl (λw j=>pO m t r fs w (by simpa using j)) ⟨.bl _,H,I,rfl,?_⟩;rw[show d.toArray.any (eqU x)=d.any (eqU x) by simp,pN r fs];exact q
def cZ.or{f:Value}{r m:List V->Hp->VK->Prop}(h:cZ X f r)(h':cZ X f m):cZ X f (λxs H Q=>r xs H Q\/m xs H Q):=by
 intro pins s σ H xs d Q I j q
 rcases q with q | q
 ·exact h pins s σ H xs d Q I j q
 ·exact h' pins s σ H xs d Q I j q
def DP:cZ X (.type "list") (λxs H Q=>∃p ys,xs=[.ref p]/\(SqL X.K H p ys\/SqT X.K H p ys)/\∀l,H l=none->Q (.ref l) (upd H l (.lst ys))):=by
 intro pins s σ H xs G Q I r h;obtain⟨p,ys,rfl,x,q⟩:=h;obtain⟨u,rfl,F⟩:=vals1 r;cases F;have fin:∀(d ),aF ys _->ys.length<=sizeLine->∀(f:Heap) (m ),(∀b E,s.heap.get? b=some E->f.get? b=some E) ->
   f.get? _=some _->EP X _ σ Q _ _:=λd j t f m kp e =>
  ⟨.ref _,_,I.laid (t':=s.toks) kp (zc _) (show bU _ _ _ f _ (.lst ys) from⟨t,d,m,j,e⟩),rfl,q _ (I.hok.fresh (zc _))⟩
 rcases x with x | x
 ·obtain⟨d,j,pl,t⟩:=I.list x;have hlen:=j.length;obtain⟨o,y,C,n,hd⟩:=pl.isList
  exact call_list_seq p (.inl rfl) y C hd λf m kp e=>fin _ j t f m kp e
 ·obtain⟨d,j,pl,t⟩:=I.tuple x;have hlen:=j.length;obtain⟨o,y,C,n,hd⟩:=pl
  exact call_list_seq p (.inr rfl) y C hd λf m kp e=>fin _ j t f m kp e
def tyV(K:PySem.W.Frag)(T:String)(x:V)(H:Hp):Prop:=match x with
 | .str _=>T = "str"
 | .int _=>T = "int"
 | .ref p=>(T = "list"/\∃f,SqL K H p f)\/(T = "tuple"/\∃o,K.lookup p=some o/\o.cls=.type "tuple"/\o.dict=none) \/
   (T = "dict"/\((∃d,H p=some (.dK d))\/∃d,H p=some (.dT d)))\/(T = "set"/\∃S n,H p=some (.set S n))
 | _=>False
def DQ  {σ:St}      (I:Inv X pins σ H s)(r:RelV x v)(ty:tyV X.K T x H):
  s.TypeIs v T/\∀a,v=.ref a->∃ob,s.heap.get? a=some ob/\ob.dict=none:=by
 cases x with
 |str z =>
  obtain⟨t,rfl⟩:=r;cases(ty);exact⟨typeIs_str s z t,λ_ e=>nomatch e⟩
 |int i =>
  obtain⟨t,rfl⟩:=r;cases(ty);exact⟨typeIs_int s i t,λ_ e=>nomatch e⟩
 |ref p =>
  cases r
  rcases ty with⟨rfl,C,m⟩ | ⟨rfl,o,d,u,hd⟩ | ⟨rfl,d⟩ | ⟨rfl,S,n,d⟩
  ·obtain⟨y,_,pl,_⟩:=I.list m;refine⟨pl.isList.typeIs,λa e=>?_⟩;cases e;obtain⟨o,n,e,c,hd,_⟩:=pl;exact⟨o,e,hd⟩
  ·refine⟨⟨o,I.kIn p o d,u⟩,λa e=>?_⟩;cases e;exact⟨o,I.kIn _ o d,hd⟩
  ·have z:∃o,s.heap.get? p=some o/\o.ExactDict:=by
    rcases d with⟨j,d⟩ | ⟨j,d⟩
    ·obtain⟨_,_,_,_,o,_,_,e,ex,_⟩:=I.hok p _ d;exact⟨o,e,ex⟩
    ·obtain⟨_,_,_,_,o,_,_,e,ex,_⟩:=I.hok p _ d;exact⟨o,e,ex⟩
   obtain⟨o,e,ex⟩:=z;refine⟨⟨o,e,ex.1⟩,λa f=>?_⟩;cases f;exact⟨o,e,ex.2.1⟩
  ·obtain⟨o,_,_,_,e,ex,_⟩:=I.hok p _ d;refine⟨⟨o,e,ex.1⟩,λa f=>?_⟩;cases f;exact⟨o,e,ex.2.1⟩
 | _=>exact False.elim ty
def Tg(K:PySem.W.Frag)(T:String)(r:V->List V->Hp->VK->Prop)(to:TE):TE:=λσ H Q=>to σ H λx d=>tyV K T x d/\r x [] d Q
def tBM(K:PySem.W.Frag)(T:String)(r:V->List V->Hp->VK->Prop)(to:TE)(t:TA):TE:=λσ H Q=>to σ H λx d=>tyV K T x d/\t σ d λf j=>r x f j Q
variable {o e:Expr}{es:List Expr}{to:TE}{t:TA}{name:Str}{apos cpos:Pos}{T id:String}{r:V->List V->Hp->VK->Prop}
def Th{apos cpos:Pos}{id:String}(m:PlainAttrs T)(slot:Slot T name id)(j:typeOf (.builtin id)=pure (.type "method_descriptor"))(y:MtR X id r)(u:PE X o to)
  (f:attributeBase o name X.env (eval o X.env)=eval o X.env:=by rfl) (d:(apos.endLine == cpos.line)=true:=by rfl):PE X (.Call (.Attribute o name apos) [] [] cpos) (Tg X.K T r to):=by
 intro pins s σ H Q I h;refine wpAny_Call_method0_late f d (thn (u _ s σ H _ I h) λv s1 ⟨x,H1,I1,r1,ty,q1⟩=>?_);obtain⟨h1,h2⟩:=DQ I1 r1 ty;exact⟨T,id,m,slot,j,h1,h2,Calls.callWith_builtin rfl (PySem.evalArgs_none (y _ s1 σ H1 x [] v [] Q I1 r1 .nil q1))⟩
def j4{apos cpos:Pos}{id:String}(C:PlainAttrs T)(slot:Slot T name id)(u:typeOf (.builtin id)=pure (.type "method_descriptor"))(F:MtR X id r)(E:PE X o to)(G:PA X (e::es) t)
  (j:attributeBase o name X.env (eval o X.env)=eval o X.env:=by rfl)
  (m:((backTo cpos (starEach (e::es) X.env)).all (λx=>!x.1)&&(backToKw cpos (keywordEach [] X.env)).all (λx=>x.1.isSome)
   && decide ((e::es).length+([]:List Keyword).length+(if([]:List Keyword).isEmpty then 0 else 1)<30))=true:=by rfl)
  (f:(apos.endLine == cpos.line)=true:=by rfl) (hs:starEach (e::es) X.env=(false,eval e X.env)::starEach es X.env:=by rfl) (d:(backTo cpos (starEach es X.env)).any (·.1)=false:=by rfl):
  PE X (.Call (.Attribute o name apos) (e::es) [] cpos) (tBM X.K T r to t):=by
 intro pins s σ H Q I h;refine wpAny_Call_method_late j m f rfl (thn (E _ s σ H _ I h) λv s1 ⟨x,H1,I1,r1,ty,q1⟩=>?_);obtain⟨h1,h2⟩:=DQ I1 r1 ty;refine⟨T,id,C,slot,u,h1,h2,?_⟩;have y:=G cpos _ s1 σ H1 _ I1 q1;rw[hs] at y ⊢;refine Calls.callWith_builtin (by show(false || (backTo _ _).any _)=false;rw[d]<;>rfl) (Calls.evalArgs_plain ?_)
 exact thn y λus s2 ⟨vs,H2,I2,r2,q2⟩=>F _ s2 σ H2 x vs v us Q I2 r1 r2 q2
end
def MtM(X:Cx)(j:String)(r:V->List V->Hp->VK->Prop):Prop :=
 ∀(pins:List (Addr×Obj)) (s:Shared) (σ:St) (H:Hp) (x:V) (d:List V) (v:Value) (f:List Value) (Q:VK),Inv X pins σ H s->RelV x v->aF d f->r x d H Q ->
  wpAny (model X.prog X.w) X.A (call (.builtin j) (v::f)) (EP X pins σ Q) X.xe s
theorem aF.one:∀{x:V}{us:List Value},aF [x] us->∃u,us=[u]/\RelV x u
 | _,_,.cons r .nil=>⟨_,rfl,r⟩
theorem aF.zero:∀{us:List Value},aF [] us->us=[]
 | _,.nil=>rfl
def aF.reverse   (h:aF xs us):aF xs.reverse us.reverse:=by
 induction h with
 |nil=>exact .nil
 |cons r t d=>rw[List.reverse_cons,List.reverse_cons];exact aF.append d (.cons r .nil)
theorem aF.rep   (h:aF xs us):∀k:Nat,aF (List.replicate k xs).flatten (List.replicate k us).flatten
 | 0=>.nil
 |k+1=>by
  rw[List.replicate_succ,List.replicate_succ,List.flatten_cons,List.flatten_cons];exact aF.append h (aF.rep h k)
theorem foldl_rep(d:List Value):∀(k:Nat) (acc:List Value),
  List.foldl (λj f=>j++f) acc.toArray (List.replicate k d.toArray)=(acc++(List.replicate k d).flatten).toArray
 | 0,acc=>by simp
 |k+1,acc=>by
  have e:acc.toArray++d.toArray=(acc++d).toArray:=by simp
  have m:acc++d++(List.replicate k d).flatten=acc++(List.replicate (k+1) d).flatten:=by
   rw[List.replicate_succ,List.flatten_cons,zB]
  rw[<-m,<-foldl_rep ,<-e,List.replicate_succ,List.foldl_cons]
def Inv.lset{σ:St}{d:List Value}    (I:Inv X E σ H s)(y:H l=some (.lst xs))
  (e:s.heap.get? l=some {cls:=.type "list",data:=.seq d.toArray n}) (m:f d.toArray=its'.toArray) (hv:aF ys its') (hz:ys.length<=sizeLine):
  Inv X E σ (upd H l (.lst ys)) {s with heap:=s.heap.update l (Obj.mapSeq f),toks:=t'}:=by
 have q:=PySem.IsL.update e f;rw[m] at q;refine I.write (x:=l) (e:=l) (by rw[y];exact trivial) (.inl rfl) (λC u t j=>(jh s.heap (Obj.mapSeq f) (Ne.symm t)).trans j) ⟨_,q⟩ ?_;exact⟨hz,its',_,hv,q⟩
def Inv.lnew{σ:St}   (I:Inv X f σ H s)(hv:aF ys d)(hz:ys.length<=sizeLine):
  Inv X f σ (upd H s.heap.objs.size (.lst ys)) {s with heap:=s.heap.push {cls:=.type "list",data:=.seq d.toArray},toks:=t'}:=
 I.laid (λ_ _ q=>zo _ q) (zc _) ⟨hz,d,0,hv,zy _ rfl⟩
def Inv.fresh{σ:St}(I:Inv X d σ H s):H s.heap.objs.size=none:=I.hok.fresh (zc _)
def Inv.lstM{σ:St}(I:Inv X j σ H s)(f:H l=some (.lst xs)):xs.length<=sizeLine/\∃(d:List Value) (n:Nat),aF xs d/\xs.length=d.length/\s.heap.get? l=some {cls:=.type "list",data:=.seq d.toArray n}:=by
 obtain⟨z,d,n,r,e⟩:=I.hok l _ f;exact⟨z,d,n,r,r.length,e⟩
def DR  (h:n<=sizeLine):Builtin.List.listTooLong n=false:=by
 exact zq (by omega)
def Ti:V->List V->Hp->VK->Prop:=λx f H Q=>∃l d y,x=.ref l/\f=[y]/\H l=some (.lst d)/\d.length<sizeLine/\Q .non (upd H l (.lst (d++[y])))
def DW:MtM X "list.append" Ti:=by
 intro pins s σ H x E v G Q I f j h;obtain⟨l,C,y,rfl,rfl,d,J,q⟩:=h;cases f;obtain⟨u,rfl,m⟩:=j.one;obtain⟨z,t,n,r,L,e⟩:=I.lstM d;refine call_meets F.slot_list_append ⟨_,e,rfl⟩ F.entry_list_append (F.args_list_append_2 _ _) (PySem.list_append l _ n u) ⟨e,?_⟩;refine⟨.non,_,I.lset d e (by simp) (r.append (.cons m .nil)) ?_,rfl,q⟩;rw[ze,zR];omega
def Tj:V->List V->Hp->VK->Prop:=λx f H Q=>∃l d,x=.ref l/\f=[]/\H l=some (.lst d)/\Q .non (upd H l (.lst d.reverse))
def Tn:MtM X "list.reverse" Tj:=by
 intro pins s σ H x y v C Q I j m h;obtain⟨l,u,rfl,rfl,f,q⟩:=h;cases j;have d:=m.zero;subst d;obtain⟨z,t,n,r,E,e⟩:=I.lstM f;refine call_meets F.slot_list_reverse ⟨_,e,rfl⟩ F.entry_list_reverse (F.args_list_reverse_1 _) (AutoSeq1.list_reverse_list_0 l _ n (by rw[zI];omega)) ⟨e,?_⟩;refine⟨.non,_,I.lset f e (by simp) r.reverse ?_,rfl,q⟩;rw[List.length_reverse];omega
def len_rep{α:Type}(xs:List α)(k:Nat):(List.replicate k xs).flatten.length=k * xs.length:=by
 induction k with
 |zero=>simp
 |succ k d=>rw[List.replicate_succ,List.flatten_cons,ze,d,Nat.succ_mul,Nat.add_comm]
end L2
namespace Att
open PySem PySem.W PySem.Calls PyProof.Rows
def Tp  :∀(ns:List Int) (vs:List Value),WellAll P h vs (ns.map WData.int)->IntsAre vs ns:=by
 intro ns
 induction ns with
 |nil =>
  intro vs w;cases w;exact .nil
 |cons n ns ih =>
  intro vs w
  cases w with
  |cons a b =>
   cases a;exact .cons _ _ (ih _ b)
def Tq{l:OpenLaw}  (x:l.most=some n)
  (f:l.row.toRowW.claim.pre args=true) (m:WellAll P h vals args):
  ∃a vs ns,vals=[Value.ref a]/\args=[WData.list (ns.map WData.int)]/\h.get? a=some {cls:=.type "list",data:=.seq vs.toArray}/\IntsAre vs ns/\ns.length<=n:=by
 have t :=(pre_splitW f).1;have y :=(pre_splitW f).2;obtain⟨d,r,rfl,h1,h2⟩:=hasAllW_cons t;obtain rfl:=hasAllW_nil h2;obtain⟨E,rfl,h3⟩:=hasW_list h1;obtain⟨ns,rfl⟩:=items_int h3
 have hlen :=by
  have h4 :=by
   have h4:=(holds_andW y).1;rw[x] at h4;exact h4
  have C:=condW_of h4 (w_not (w_lt w_lit (w_len_list (w_arg rfl))))
  first
   | (exact absurd )
   | (simp at C;omega)
 cases m with
 |cons w1 w2 =>
  cases w2
  cases w1 with
  |list u j=>exact⟨_,_,ns,rfl,rfl,u,Tp ns _ j,hlen⟩
def Tr(l:OpenLaw)(args:List WData):l.row.toRowW.claim.post args (.bool true) args=true :=
 postW_of
  (show WShape.has [] _ _=true by first | rfl | decide | simp )
  (w_eq_bool (w_res rfl) w_lit) rfl
def attach_call{l:OpenLaw}
  (Q:l.most=some n) (I:d.params.defaults=[])
  (call:∀(w:World) (s₀ j:Shared) (mg mb:Str->Option Value) (fa:Addr) (o:Obj) (C y m:Value) (a:Addr) (vs:List Value) (ns:List Int),
   Ground q loose [] XP w s₀ mg mb j.heap->YP w j.heap ->
   j.heap.get? fa=some o->o.data=.func (docDef d.name d.params d.body d.scope C y m)->j.heap.CodeRec y d.name->mg d.name=some (.ref fa) ->
   j.heap.get? a=some {cls:=.type "list",data:=.seq vs.toArray}->IntsAre vs ns->ns.length<=n->j.gens = #[] ->
   codeAny (model l.prog w) callerA (.call (.ref fa) ⟨[.ref a],[]⟩) (λr x=>r=.ok (.ret (.bool true))/\OldK j.heap x.heap/\x.os=j.os/\AllBare x.gens) j):
  WalkO q loose XP YP l.row.toRowW d [] (λf vs=>PySem.call f vs):=by
 intro w s₀ j mg mb G Y fa o C y m U kV P hd J hD F T args vals Z t L W E X;obtain rfl:U=.none:=Dflts.none hD I;obtain rfl:kV=.none:=Dflts.noKw hD;obtain⟨a,vs,ns,rfl,rfl,u,hints,hlen⟩:=Tq Q t E;refine enter_call (codeAny_mono (call w s₀ j mg mb fa o C y m a vs ns G Y P (fd_plain hd) J F u hints hlen T) λr x O=>?_);obtain⟨rfl,h2,h3,h4⟩:=O;exact⟨.inl ⟨.bool true,.bool true,[],rfl,λ_=>rfl,.bool true,Tr l _,λ_=>⟨List.Pairwise.nil,λ_ R=>(nomatch R)⟩⟩,h2,h3,h4⟩
end Att
namespace L2
open PySem PySem.Spec PyProof.Rows
theorem DX:∀{vs:List Value}{ns:List Int},IntsAre vs ns->aF (ns.map V.int) vs
 | _,_,.nil=>.nil
 | _,_,.cons n t h=>.cons ⟨t,rfl⟩ (DX h)
def rZ(H:Hp):Prop:=∀b,H b=none\/∃o d,H b=some (.frz o (.lst d))
def inClass(s:Stmt)(j:Nat):Stmt:=match s with
 | .ClassDef _ _ _ body _ _ _ _ _ _ _=>body.getD j (.Pass ⟨0,0,0,0⟩)
 | _=>.Pass ⟨0,0,0,0⟩
def cP(s:Stmt):Arguments:=match s with
 | .FunctionDef _ a _ _ _ _ _ _ _ _=>a
 | _=>{posonlyargs:=[],args:=[],vararg:=none,kwonlyargs:=[],kw_defaults:=[],kwarg:=none,defaults:=[]}
def bY(s:Stmt):List Stmt:=match s with
 | .FunctionDef _ _ b _ _ _ _ _ _ _=>b
 | _=>[]
def aO(s:Stmt):Scope:=match s with
 | .FunctionDef _ _ _ _ _ _ sc _ _ _=>sc
 | _=>{kind:=.function,names:=[],isGenerator:=false,isCoroutine:=false}
abbrev CX0:CXT:=λ_ _ _ _ _ _=>False
abbrev E0:XK:=λ_ _ _=>False
def lM :j0 CX0 X E0:=λ_ _ _ _ _ _ _ h=>h.elim
structure Fun(K:PySem.W.Frag)(x qual:Str)(st:Stmt)(f:Addr)(fd:FuncData):Prop where
 ex:∃(oc:Value) (od:Option Addr) (kV doc pm:Value) (an:Option Addr) (cdv ct:Value) (osl:Array (Option Value)),
  fd=PySem.W.fnOf x qual (cP st) (bY st) (aO st) .none kV doc pm an cdv ct/\K.lookup f=some ⟨oc,od,.func fd,osl⟩/\PySem.W.codeIn K cdv qual=true
 kp:PySem.W.keepIn K (.ref f)=true
def Fun.ok{K:PySem.W.Frag}  {st:Stmt}      (F:Fun K x T st f fd)(S:dZ N ps (aO st))(len:∀vs H Q E,sp vs H Q E->vs.length=ps.length)
  (j:∀(d:Value) (A:Around) (outer:List Env) (s:Shared) (H:Hp) (vs:List V) (Q:VK) (E:XK),aW k (A.deeper (envOfC T (aO st) s.heap.objs.size f d))->sp vs H Q E ->
   ∃t,PSs (fU CX0 P w K mg base N T (aO st) f d A outer s H E).nox (bY st) t/\t {nx:=λ_ C=>Q .non C,rt:=Q} (start N vs) H):cz P w K mg base CX0 (k+1) f fd ps sp:=by
 obtain⟨O,L,kV,I,J,R,d,ct,G,rfl,lk,u⟩:=F.ex
 refine wA lk u S len λA outer s H vs Q E y m=>?_
 obtain⟨t,h,q⟩:=j d A outer s H vs Q E y m;exact⟨t,h.nox,q⟩
def Fun.binds{K:PySem.W.Frag}  {st:Stmt}    (F:Fun K x G st f fd)
  (h:∀(kV d m:Value) (t:Option Addr) (j ct:Value) (us:List Value),us.length=ps.length->bindArgs (PySem.W.fnOf x G (cP st) (bY st) (aO st) .none kV d m t j ct) ⟨us,[]⟩=pure (ps.zip us)):Binds K fd ps []:=by
 obtain⟨E,C,kV,d,m,t,j,ct,u,rfl,lk,y⟩:=F.ex;exact .all (h kV d m t j ct)
def DY{K:PySem.W.Frag}  {st:Stmt}     {kV:Value}(l:K.lookup f=some ⟨E,C,.func (PySem.W.fnOf x d (cP st) (bY st) (aO st) .none kV m u y j ct),t⟩)
  (c:PySem.W.codeIn K j d=true) (k:PySem.W.keepIn K (.ref f)=true):Fun K x d st f (PySem.W.fnOf x d (cP st) (bY st) (aO st) .none kV m u y j ct):=⟨⟨E,C,kV,m,u,y,j,ct,t,rfl,l,c⟩,k⟩
def wD   (d:aW k A):A.units+1<cLine:=Nat.lt_of_le_of_lt (Nat.add_le_add_left (by decide) _) d.units
def Same(H d:Hp):Prop:=∀b o,H b=some o->d b=some o
def Same.refl(H:Hp):Same H H:=λ_ _ h=>h
def Same.trans  (a:Same H f)(b:Same f d):Same H d:=λc o h=>b c o (a c o h)
def Same.seq{K:PySem.W.Frag}    (e:Same H d)(h:SqL K H a xs):SqL K d a xs:=by
 rcases h with(h | ⟨o,h⟩) | h
 ·exact .inl (.inl (e _ _ h))
 ·exact .inl (.inr ⟨o,e _ _ h⟩)
 ·exact .inr h
section
variable {κ:Type}[DecidableEq κ]
def dz(d:List (κ×V))(k:κ):Option V:=(d.find? λf=>decide (f.1=k)).map (·.2)
def putK(d:List (κ×V))(k:κ)(v:V):List (κ×V):=
 if(d.any λf=>decide (f.1=k))=true then d.map (λf=>if f.1=k then(f.1,v) else f) else d++[(k,v)]
def nC{p:κ×V}{r:List (κ×V)}{k:κ}(e:p.1=k):dz (p::r) k=some p.2:=by simp[dz,List.find?_cons,e]
def nD{p:κ×V}{r:List (κ×V)}{k:κ}(e:¬p.1=k):dz (p::r) k=dz r k:=by simp[dz,List.find?_cons,e]
theorem wG(k:κ):∀d:List (κ×V),(d.any λf=>decide (f.1=k))=(dz d k).isSome
 | []=>rfl
 |p::r=>by
  rw[List.any_cons]
  by_cases e:p.1=k
  ·simp only[nC e,zv e,Bool.true_or,Option.isSome_some]
  ·rw[nD e,zq e,Bool.false_or];exact wG k r
def sr(d:List (κ×V))(k:κ)(v:V):(putK d k v).length<=d.length+1:=by
 unfold putK
 split
 ·rw[zf];omega
 ·rw[ze,zw,je];omega
def dq.isSome_eq{o:Option V}{u:Option Value}(r:dq o u):o.isSome=u.isSome:=by
 cases o with
 |none=>cases u with
  |none=>rfl
  |some _=>exact(show False from r).elim
 |some _=>cases u with
  |none=>exact(show False from r).elim
  |some _=>rfl
def KV.val{d:List (κ×V)}{vs:List (κ×Value)}(r:KV d vs)(k:κ):dq (dz d k) (valueAt vs k):=by
 unfold KV at r
 induction r with
 |nil=>exact True.intro
 | @cons p q ps qs h t ih =>
  obtain⟨h1,h2⟩:=h
  by_cases e:p.1=k
  ·have e':q.1=k:=h1.symm.trans e
   have b:valueAt (q::qs) k=some q.2:=by simp[valueAt,List.find?_cons,e']
   rw[nC e,b];exact h2
  ·have e':¬q.1=k:=λz=>e (h1.trans z)
   have b:valueAt (q::qs) k=valueAt qs k:=by simp[valueAt,List.find?_cons,e']
   rw[nD e,b];exact ih
def KV.any{d:List (κ×V)}{vs:List (κ×Value)}(r:KV d vs)(k:κ):(d.any λf=>decide (f.1=k))=vs.any λf=>decide (f.1=k):=by
 unfold KV at r
 induction r with
 |nil=>rfl
 |cons h t j=>rw[List.any_cons,List.any_cons,j,h.1]
def KV.repl{f:List (κ×V)}{vs:List (κ×Value)}(r:KV f vs)(k:κ){y:V}{u:Value}(j:RelV y u):
  KV (f.map λd=>if d.1=k then(d.1,y) else d) (vs.map λd=>if d.1=k then(d.1,u) else d):=by
 unfold KV at r ⊢
 induction r with
 |nil=>exact .nil
 | @cons p q ps qs h t ih =>
  rw[zg,zg];refine .cons ?_ ih;obtain⟨h1,h2⟩:=h
  by_cases e:p.1=k
  ·rw[if_pos e,if_pos (h1.symm.trans e)];exact⟨h1,j⟩
  ·rw[if_neg e,if_neg (λz=>e (h1.trans z))];exact⟨h1,h2⟩
def KV.put{d:List (κ×V)}{vs:List (κ×Value)}(r:KV d vs)(k:κ){y:V}{u:Value}(f:RelV y u):KV (putK d k y) (stored vs k u):=by
 unfold putK stored;rw[r.any k]
 by_cases e:(vs.any λj=>decide (j.1=k))=true
 ·rw[if_pos e,if_pos e];exact r.repl k f
 ·rw[if_neg e,if_neg e];exact Paired.snoc r ⟨rfl,f⟩
def KV.length{d:List (κ×V)}{vs:List (κ×Value)}(r:KV d vs):d.length=vs.length:=Paired.length r
end
def nF     (r:RelV (kV k) u):(cJ P w).is k u=true:=by
 cases k with
 |inl i=>obtain⟨t,e⟩:=(r);subst e;exact O8 P w i t
 |inr x=>obtain⟨t,e⟩:=(r);subst e;exact O9 P w x t
theorem su  :∀{ks:List Key}{us:List Value},aF (ks.map kV) us->ItemsAre (cJ P w) ks us
 | [],_,r=>by cases r;exact .nil
 |k::ks,_,r=>by
  cases r with
  |cons h t=>exact .cons (nF h) (su t)
abbrev KT(H:Hp):List (List Key×V)->List (List Key×Addr×Value)->Prop:=Paired λp q=>p.1=q.1/\H q.2.1=some (.tup (p.1.map kV))/\RelV p.2 q.2.2
def KT.val    (r:KT H kvs xs)(k:List Key):dq (dz kvs k) ((atKey xs k).map (·.2)):=by
 induction r with
 |nil=>exact True.intro
 | @cons p q ps qs h t ih =>
  obtain⟨h1,_,h2⟩:=h
  by_cases e:p.1=k
  ·have e':q.1=k:=h1.symm.trans e
   have b:atKey (q::qs) k=some q.2:=by simp[atKey,List.find?_cons,e']
   rw[nC e,b];exact h2
  ·have e':¬q.1=k:=λz=>e (h1.trans z)
   have b:atKey (q::qs) k=atKey qs k:=by simp[atKey,List.find?_cons,e']
   rw[nD e,b];exact ih
def KT.repl    (r:KT H kvs xs)(k:List Key)   (f:RelV y u):
  KT H (kvs.map λd=>if d.1=k then(d.1,y) else d) (xs.map (putAt k u)):=by
 induction r with
 |nil=>exact .nil
 | @cons p q ps qs h t ih =>
  rw[zg,zg];refine .cons ?_ ih;obtain⟨h1,h2,h3⟩:=h;unfold putAt
  by_cases e:p.1=k
  ·rw[if_pos e,if_pos (h1.symm.trans e)];exact⟨h1,h2,f⟩
  ·rw[if_neg e,if_neg (λz=>e (h1.trans z))];exact⟨h1,h2,h3⟩
def KT.put    (r:KT H j xs)(k:List Key)    (hb:H b=some (.tup (k.map kV)))(d:RelV y u):
  KT H (putK j k y) (storedH xs k b u):=by
 have e:(j.any λf=>decide (f.1=k))=(atKey xs k).isSome:=by
  rw[wG,(r.val k).isSome_eq,Option.isSome_map]
 unfold putK storedH;rw[e]
 by_cases q:(atKey xs k).isSome=true
 ·rw[if_pos q,if_pos q];exact r.repl k d
 ·rw[if_neg q,if_neg q];exact Paired.snoc r ⟨rfl,hb,d⟩
def KT.keeps    (r:KT H f xs)(d:∀b ys,H b=some (.tup ys)->j b=some (.tup ys)):KT j f xs :=
 Paired.mapP r λ_ _ z=>⟨z.1,d _ _ z.2.1,z.2.2⟩
def wH  (ok:HOk P w H h)(e:Rd H a u):bU P w H h a u:=e.ok ok
def sy  (ok:HOk P w H h)(e:Rd H a (.dK d)):d.length<=sizeLine/\(a == sysModules)=false/\∃vs,KV d vs/\h.DictOf (cJ P w) a vs :=
 wH ok e
def wI  (ok:HOk P w H h)(e:H a=some (.dK d)):d.length<=sizeLine/\(a == sysModules)=false/\∃vs,KV d vs/\h.DictOf (cJ P w) a vs:=sy ok (.inl e)
def sE  (ok:HOk P w H h)(e:H a=some (.tup (ks.map kV))):(tupleKind (cJ P w)).is h ks a:=by
 obtain⟨_,d,r,o,h1,h2,n,h3⟩:=(show bU P w H h a (.tup (ks.map kV)) from ok a _ e);exact⟨o,d.toArray,n,h1,h2,h3,by simpa using su r⟩
def sG  (ok:HOk P w H h)(e:Rd H a (.dT u)):u.length<=sizeLine/\(a == sysModules)=false /\
  ∃xs,KT H u xs/\h.DictOfH (tupleKind (cJ P w)) a xs:=by
 obtain⟨z,y,xs,r,o,f,j,h1,h2,h3,h4,d⟩:=(wH ok e);refine⟨z,y,xs,r,o,f,j,h1,h2,h3,h4,λx hx=>?_,d⟩
 have all:∀{l}{m},KT H l m->∀x∈m,(tupleKind (cJ P w)).is h x.1 x.2.1:=by
  intro l m q
  induction q with
  |nil=>intro x hx;exact nomatch hx
  | @cons p q ps qs hq t ih =>
   intro x hx
   rcases zk.mp hx with e | hx
   ·subst e;exact sE ok (by rw[<-hq.1];exact hq.2.1)
   ·exact ih x hx
 exact all r x hx
def Tt  (ok:HOk P w H h)(e:H a=some (.dT d)):d.length<=sizeLine/\(a == sysModules)=false /\
  ∃xs,KT H d xs/\h.DictOfH (tupleKind (cJ P w)) a xs:=sG ok (.inl e)
def iY(H:Hp)(a:Addr)(y:V)(r:Option V):Prop :=
 (∃d k,Rd H a (.dK d)/\y=kV k/\r=dz d k)\/∃d k b,Rd H a (.dT d)/\y=.ref b/\H b=some (.tup (k.map kV))/\r=dz d k
def pQ(H:Hp)(a:Addr)(y v:V)(f:Hp):Prop :=
 (∃d k,H a=some (.dK d)/\y=kV k/\d.length<sizeLine/\f=upd H a (.dK (putK d k v))) \/
 ∃d k b,H a=some (.dT d)/\y=.ref b/\H b=some (.tup (k.map kV))/\d.length<sizeLine/\f=upd H a (.dT (putK d k v))
def iY.k    {k:Key}(e:H a=some (.dK d)):iY H a (kV k) (dz d k):=.inl ⟨d,k,.inl e,rfl,rfl⟩
def pQ.k    {k:Key}  (e:H a=some (.dK f))(d:f.length<sizeLine):pQ H a (kV k) v (upd H a (.dK (putK f k v))):=.inl ⟨f,k,e,rfl,d,rfl⟩
def Inv.big{σ:St}(I:Inv X d σ H s):sysModules<s.heap.objs.size:=by
 have h:mainGlobals<s.heap.objs.size:=(I.mod.glob.keeps I.bk).lt;exact Nat.lt_trans (by decide) h
def Tu{σ:St}  (O:A.units+1<cLine)(I:Inv X T σ H s)(g:iY H a y (some v))(G:RelV y u)(h:∀f F,Inv X T σ H F->RelV v f->Q f F):
  wpAny (model X.prog X.w) A (getItem (.ref a) u) Q E s:=by
 rcases g with⟨x,k,e,m,l⟩ | ⟨x,k,b,e,m,R,l⟩
 ·subst m;obtain⟨z,hd,L,rel,t⟩:=sy I.hok e;obtain⟨f,j,d⟩:=dq.some_of (v:=v) (o:=valueAt L k) (by rw[l];exact rel.val k);exact wpAny_getItem_of (nF G) t.mapOf j (h f _ (I.tok _) d)
 ·subst m;cases(show u=Value.ref b from G);obtain⟨z,hd,J,rel,t⟩:=sG I.hok e;obtain⟨f,j,d⟩:=dq.some_of (v:=v) (o:=(atKey J k).map (·.2)) (by rw[l];exact rel.val k);obtain⟨p,P,C⟩:=jt.mp j;refine wpAny_getItem_heap (tupleKind_room_in1 O) (sE I.hok R) t P ?_;rw[C];exact h f _ (I.tok _) d
def Tv{σ:St}  (x:A.units+1<cLine)(I:Inv X J σ H s)(g:iY H a y o)(t:RelV y u)(h:∀m,Inv X J σ H m->Q (.bool (!o.isSome)) m):
  wpAny (model X.prog X.w) A (compareOp .NotIn u (.ref a)) Q E s:=by
 rcases g with⟨j,k,e,d,l⟩ | ⟨j,k,b,e,d,C,l⟩
 ·subst d;obtain⟨z,hd,G,rel,f⟩:=sy I.hok e;refine wpAny_notIn_of (nF t) hd f.mapOf ?_;rw[<-(rel.val k).isSome_eq,<-l];exact h _ (I.tok _)
 ·subst d;cases(t);obtain⟨z,hd,F,rel,f⟩:=sG I.hok e;refine wpAny_notIn_heap (tupleKind_room_in1 x) (sE I.hok C) hd f ?_;have q:=(rel.val k).isSome_eq;rw[Option.isSome_map] at q;rw[<-q,<-l];exact h _ (I.tok _)
def wJ{σ:St}    (I:Inv X m σ H s)(d:Mut (H a))(hs:Heap.SameBut a s.heap h')(f:∃q,h'.get? a=some q)(new:bU X.prog X.w (upd H a ob) h' a ob):
  Inv X m σ (upd H a ob) {s with heap:=h',toks:=t'}:=
 I.write (x:=a) (e:=a) d (.inl rfl) (λb q j z=>(hs.2 b j).trans z) f new
def Ea       (z:f.length<=sizeLine)(hd:(a == sysModules)=false)(rel:KV f vs)(d:h'.DictOf (cJ P w) a vs):
  bU P w j h' a (.dK f):=⟨z,hd,vs,rel,d⟩
def Tw{σ:St}   (W:A.units+1<cLine)(I:Inv X pins σ H s)(g:pQ H a y v H')(J:RelV y u)(L:RelV v r)(h:∀G,Inv X pins σ H' G->Q () G):
  wpAny (model X.prog X.w) A (setItem (.ref a) u r) Q E s:=by
 rcases g with⟨d,k,e,x,l,C⟩ | ⟨d,k,b,e,x,R,l,C⟩
 ·subst x C;obtain⟨z,hd,U,rel,F⟩:=wI I.hok e
  have m:U.length<=sizeLine:=by rw[<-rel.length];exact z
  have t:(putK d k v).length<=sizeLine:=by have:=sr d k v;omega
  refine wpAny_setItem_pairs (hsz:=m) (nF J) F λO f hs=>h _ ?_
  have Y:∃q,O.get? a=some q:=let ⟨q,_,_,j,_⟩:=f;⟨q,j⟩;exact wJ I (by rw[e];exact True.intro) hs Y (Ea t hd (rel.put k L) f)
 ·subst x C;cases(show u=Value.ref b from J);obtain⟨z,hd,T,rel,F⟩:=Tt I.hok e
  have m:T.length<=sizeLine:=by rw[<-Paired.length rel];exact z
  have t:(putK d k v).length<=sizeLine:=by have:=sr d k v;omega
  refine wpAny_setItem_heap (hsz:=m) (tupleKind_room_in1 W) (sE I.hok R) F λO f hs=>h _ ?_
  obtain⟨q,es,ep,j,h2,h3,h4,_,Z⟩:=f;refine wJ I (by rw[e];exact True.intro) hs ⟨q,j⟩ ⟨t,hd,_,(rel.put k R L).keeps λc ys P=>?_,q,es,ep,j,h2,h3,h4,Z⟩;rw[aD (ne_of P e (λz=>nomatch z))];exact P
def wK(i:Expr):Prop:=∀d f,subscripted i false d f=operate [d,f] (getItem d f)
def Eb         {y:String}
  (C:typeLookup (.type T) "__getitem__" = pure (some (.builtin y))) (hs:wK G)
  (h:wpAny (model prog w) A (eval I env) (λo m=>wpAny (model prog w) A (eval G env) (λi d=>d.TypeIs o T/\wpAny (model prog w) A (getItem o i) Q E d) E m) E s):
  wpAny (model prog w) A (eval (.Subscript I G J) env) Q E s:=by
 refine Subscript_ (zT h (λo m u=>zT u (λi d f=>?_) λ_ _ x=>x) λ_ _ x=>x);obtain⟨F,f⟩:=f;refine za ?_;refine za (wpAny_specialOf F C ?_)
 have fin:wpAny (model prog w) A (subscripted G false o i) (λr j=>wpAny (model prog w) A (letTemporaryGo I o r >>= λ_=>pure r) Q E j) E d:=by
  rw[hs ];exact wpAny_operating (zT f (λr j t=>za (wpAny_letTemporaryGo (zb t))) λ_ _ x=>x)
 first
  | exact zb (za fin)
  | exact za
  | exact za
def Tz   {σ:St}      (I:Inv X t σ H s)(g:iY H a y o):s.TypeIs (.ref a) "dict":=by
 rcases g with⟨f,k,e,_⟩ | ⟨f,k,b,e,_⟩
 ·obtain⟨_,_,m,_,d⟩:=sy I.hok e;exact d.typeIs
 ·obtain⟨_,_,j,_,d⟩:=sG I.hok e;exact d.typeIs
def TF(f ty:TE):TE:=λσ H Q=>f σ H λx j=>ty σ j λy d=>∃a v,x=.ref a/\iY d a y (some v)/\Q v d
def Ec(ty f:TE):TE:=λσ H Q=>ty σ H λy j=>f σ j λx d=>∃a o,x=.ref a/\iY d a y o/\Q (.bl (!o.isSome)) d
def TJ(j ty f:TE):TS:=λD σ H=>f σ H λv u=>j σ u λx t=>ty σ t λy m=>∃a d,x=.ref a/\pQ m a y v d/\D.nx σ d
def TQ(f:X.A.units+1<cLine)(j:PE X o G)(m:PE X i ty)(hs:wK i):PE X (.Subscript o i J) (TF G ty):=by
 intro pins s σ H Q I h;refine Eb PySem.F.slot_dict_getitem.lookup hs (thn (j _ s σ H _ I h) λu s1 ⟨x,H1,I1,rx,q1⟩=>thn (m _ s1 σ H1 _ I1 q1) λiv s2 ⟨y,H2,I2,ry,a,v,ex,g,q2⟩=>?_);subst ex;obtain rfl :=rx;exact⟨Tz I2 g,Tu f I2 g ry λC E t d=>⟨v,H2,t,d,q2⟩⟩
def TV(d:X.A.units+1<cLine)(j:PE X i ty)(f:PE X o C):PC X .NotIn i o (Ec ty C):=by
 intro pins s σ H Q I h
 refine thn (j _ s σ H _ I h) λiv s1 ⟨y,H1,I1,ry,q1⟩=>thn (f _ s1 σ H1 _ I1 q1) λu s2 ⟨x,H2,I2,rx,a,ov,ex,g,q2⟩=>?_
 subst ex;obtain rfl :=rx
 exact Tv d I2 g ry λt m=>⟨.bl _,H2,m,rfl,q2⟩
def TX(d:X.A.units+1<cLine)(f:PE X o J)(j:PE X i ty)(hv:PE X C G)(hs:swapsWith C (some (.Subscript o i E)) F.line X.env=pure false):
  PS X (.Assign [.Subscript o i E] C F) (TJ J ty G):=by
 intro pins s σ H D I h;refine wpAny_Assign_Subscript (thn (hv _ s σ H _ I h) λr s1 ⟨v,H1,I1,rv,q1⟩=>thn (f _ s1 σ H1 _ I1 q1) λu s2 ⟨x,H2,I2,rx,q2⟩=>thn (j _ s2 σ H2 _ I2 q2) λiv s3 ⟨y,H3,I3,ry,a,H4,ex,g,q3⟩=>?_) hs;subst ex;obtain rfl :=rx
 exact Tw d I3 g ry rv λt m=>⟨σ,H4,m,q3⟩
def TY    (h:Heap)(hb:sysModules<h.objs.size):bU P w H (h.push {cls:=.type "dict",data:=.dict #[]}) h.objs.size (.dK []):=
 ⟨Nat.zero_le _,beq_eq_false_iff_ne.mpr (Ne.symm (zp hb)),[],.nil,Heap.DictOf.new h⟩
def T4:TE:=λ_ H Q=>∀p,H p=none->Q (.ref p) (upd H p (.dK []))
def T5:PE X (.Dict [] [] d) T4:=λpins s σ H Q I h =>
 wpAny_Dict_empty ⟨.ref _,_,I.laid (λ_ _ q=>zo _ q) (zc _) (TY _ I.big),rfl,h _ (I.hok.fresh (zc _))⟩
def wL:List (TE×TE)->St->Hp->(List (V×V)->Hp->Prop)->Prop
 | [],_,H,Q=>Q [] H
 | (tk,tv)::r,σ,H,Q=>tk σ H λx m=>tv σ m λy j=>wL r σ j λd f=>Q ((x,y)::d) f
abbrev VV:List (V×V)->List (Value×Value)->Prop:=Paired λp q=>RelV p.1 q.1/\RelV p.2 q.2
def PPs(X:Cx)(f:Pos)(keys:List (Option Expr))(values:List Expr)(d:List (TE×TE)):Prop :=
 ∀(pins:List (Addr×Obj)) (s:Shared) (σ:St) (H:Hp) (Q:List (V×V)->Hp->Prop),Inv X pins σ H s->wL d σ H Q ->
  wpAny (model X.prog X.w) X.A (evalPairs (pairTrees keys values X.env f)) (λt u=>∃j m,Inv X pins σ m u/\VV j t/\Q j m) X.xe s
def j5(d more:List (Key×V)):List (Key×V):=more.foldl (λf j=>putK f j.1 j.2) d
def KV.merge:∀{more:List (Key×V)}{f:List (Key×Value)}{d:List (Key×V)}{vs:List (Key×Value)},KV more f->KV d vs->KV (j5 d more) (merged vs f):=by
 intro more f d vs r;unfold KV at r
 induction r generalizing d vs with
 |nil=>intro q;exact q
 | @cons p q ps qs h t ih =>
  intro j
  have e:KV (putK d p.1 p.2) (stored vs q.1 q.2):=by
   have:=j.put p.1 h.2
   rw[<-h.1];exact this
  exact ih e
theorem Ed:∀(more d:List (Key×V)),(j5 d more).length<=d.length+more.length
 | [],d=>by show d.length<=d.length+0;omega
 |p::r,d=>by
  have h1:=Ed r (putK d p.1 p.2);have h2:=sr d p.1 p.2;show(j5 (putK _ _ _) r).length<=_;rw[zw];omega
structure M1(X:Cx)(o:Expr)(m:Str)(apos:Pos)(e:Expr)(cpos:Pos):Prop where
 base:attributeBase o m X.env (eval o X.env)=eval o X.env
 few:((backTo cpos (starEach [e] X.env)).all (λx=>!x.1)&&(backToKw cpos (keywordEach [] X.env)).all (λx=>x.1.isSome)
  && decide (([e]:List Expr).length+([]:List Keyword).length+(if([]:List Keyword).isEmpty then 0 else 1)<30))=true
 line:(apos.endLine == cpos.line)=true
 trees:backTo cpos (starEach [e] X.env)=[(false,eval e X.env)]
structure M2(X:Cx)(o:Expr)(m:Str)(apos:Pos)(e f:Expr)(cpos:Pos):Prop where
 base:attributeBase o m X.env (eval o X.env)=eval o X.env
 few:((backTo cpos (starEach [e,f] X.env)).all (λx=>!x.1)&&(backToKw cpos (keywordEach [] X.env)).all (λx=>x.1.isSome)
  && decide (([e,f]:List Expr).length+([]:List Keyword).length+(if([]:List Keyword).isEmpty then 0 else 1)<30))=true
 line:(apos.endLine == cpos.line)=true
 trees:backTo cpos (starEach [e,f] X.env)=[(false,eval e X.env),(false,eval f X.env)]
noncomputable def iZ(cells:List (Str×Addr)):List (Str×NameKind)->List (Str×Addr)->List (Str×Addr)
 | [],acc=>acc
 | (n,k)::r,acc=>if k == .free then iZ cells r ((n,(cells.lookup n).getD 0)::acc) else iZ cells r acc
def j6(scope:Scope)(env:Env):List (Str×Addr):=iZ env.cells scope.names []
def Ef   (d:∀y∈scope.names,y.2=.free->∃c,env.cells.lookup y.1=some c):closureFor scope env=pure (j6 scope env):=by
 simp only[closureFor,j6]
 generalize []=f
 generalize scope.names=names at d
 induction names generalizing f with
 |nil=>rfl
 |cons y r ih =>
  obtain⟨n,k⟩:=y
  have j:=λa=>ih a λz t=>d z (zm _ t)
  by_cases m:k=.free
  ·obtain⟨c,u⟩:=d _ zd m;have hc' :=u;subst m;simp only[List.forIn_cons,cellOf,hc',iZ];exact j _
  ·have x:(k == NameKind.free)=false:=by simpa
   simp only[List.forIn_cons,x,iZ];exact j _
theorem wM   :∀{names:List (Str×NameKind)}{acc:List (Str×Addr)},(iZ cells names acc).lookup x=some c->acc.lookup x=some c\/(∃k,(x,k)∈names/\k=.free/\(cells.lookup x).getD 0=c)
 | [],acc,h=>.inl h
 | (n,k)::r,acc,h=>by
  unfold iZ at h
  by_cases j:k=.free
  ·subst j
   rcases wM h with z | ⟨k,d,q⟩
   ·rw[List.lookup_cons] at z
    by_cases hx:x=n
    ·subst hx;simp at z;exact .inr ⟨.free,zd,rfl,z⟩
    ·have f:(x == n)=false:=by simpa
     rw[f] at z;exact .inl z
   ·exact .inr ⟨k,zm _ d,q⟩
  ·have f :=by simpa
   simp  [f] at h
   rcases wM h with z | ⟨k,d,q⟩
   ·exact .inl z
   ·exact .inr ⟨k,zm _ d,q⟩
theorem sH  :∀{names:List (Str×NameKind)}{acc:List (Str×Addr)},((∃c,acc.lookup x=some c)\/(x,NameKind.free)∈names)->∃c,(iZ cells names acc).lookup x=some c
 | [],acc,h=>by
  rcases h with h | h
  ·exact h
  ·cases h
 | (n,k)::r,acc,h=>by
  unfold iZ
  by_cases f:k=.free
  ·subst f;refine sH ?_
   by_cases hx:x=n
   ·subst hx;exact .inl ⟨(cells.lookup x).getD 0,by simp ⟩
   ·have d:(x == n)=false:=by simpa
    rcases h with⟨c,h⟩ | h
    ·exact .inl ⟨c,by rw[List.lookup_cons,d];exact h⟩
    ·rcases zk.mp h with e | h
     ·cases e;exact absurd rfl hx
     ·exact .inr h
  ·have d :=by simpa
   simp  [d]
   refine sH ?_
   rcases h with h | h
   ·exact .inl h
   ·rcases zk.mp h with e | h
    ·cases e;exact absurd rfl f
    ·exact .inr h
def jw(scope d:Scope):List (Str×NameKind):=
 scope.names.map λ(n,k)=>if(k == .free&&d.kind == .function&&d.names.lookup n == some .cell) then(n,.cell) else(n,k)
def Eg  (t:∀y∈scope.names,y.2≠.cell)   (h:(jw scope u).lookup x=some k)(m:k=.cell\/k=.free):(x,NameKind.free)∈scope.names:=by
 have j:=PySem.mem_of_lookup h;obtain⟨⟨n,f⟩,h1,h2⟩:=zz.mp j
 dsimp  at h2
 by_cases d:(f == NameKind.free&&u.kind == .function&&u.names.lookup n == some .cell)=true
 ·rw[if_pos d] at h2
  have e :=by
   simp   at d
   exact d.1.1
  cases h2;rw[<-e];exact h1
 ·rw[if_neg d] at h2;cases h2
  rcases m with e | e
  ·exact absurd e (t _ h1)
  ·rw[<-e];exact h1
def bD(d own:List Str)(cap:List Nat):List Str:=own++cap.map λj=>d.getD j (Str.ofString "")
noncomputable def compSt(own:List Str)(cap:List Nat)(σ:St):St:=own.map (λ_=>none)++cap.map λj=>(σ[j]?).join
def j7(d:Scope)(f:List Str)(scope:Scope)(own:List Str)(cap:List Nat):Bool :=
 (scope.kind == .function)&&scope.names.all (λy=>y.2 != .cell)&&scope.names.all (λy=>y.2 != .local || scope.names.lookup y.1 == some .local) &&
 scope.names.all (λy=>y.2 != .free || d.names.lookup y.1 == some .cell || d.names.lookup y.1 == some .free) &&
 cap.all λj=>decide (j<f.length)&&scope.names.contains (f.getD j (Str.ofString ""),NameKind.free)&&((jw scope d).lookup (f.getD j (Str.ofString "")) == some .cell || (jw scope d).lookup (f.getD j (Str.ofString "")) == some .free)
structure jx(sc0:Scope)(N0:List Str)(scope:Scope)(own:List Str)(cap:List Nat):Prop where
 kind:scope.kind=.function
 nocell:∀y∈scope.names,y.2≠.cell
 names:∀y∈scope.names,y.2=.local->scope.names.lookup y.1=some .local
 free:∀y∈scope.names,y.2=.free->sc0.names.lookup y.1=some .cell\/sc0.names.lookup y.1=some .free
 cap:∀j∈cap,j<N0.length/\(N0.getD j (Str.ofString ""),NameKind.free)∈scope.names/\((jw scope sc0).lookup (N0.getD j (Str.ofString ""))=some .cell\/(jw scope sc0).lookup (N0.getD j (Str.ofString ""))=some .free)
def jx.of     {cap:List Nat}(h:j7 t u scope own cap=true):jx t u scope own cap:=by
 unfold j7 at h;simp only[zD,jj,beq_iff_eq,bne_iff_ne,ne_eq,Bool.or_eq_true,decide_eq_true_eq,List.contains_iff_mem] at h;obtain⟨⟨⟨⟨h1,h2⟩,h3⟩,h4⟩,m⟩:=h;refine⟨h1,h2,λy d e=>?_,λy d e=>?_,λj f=>?_⟩
 ·rcases h3 y d with z | z
  ·exact absurd e z
  ·exact z
 ·rcases h4 y d with(z | z) | z
  ·exact absurd e z
  ·exact .inl z
  ·exact .inr z
 ·obtain⟨⟨a,b⟩,c⟩:=m j f;exact⟨a,b,c⟩
def bG(X:Cx)(scope:Scope)(C:Addr)(N':List Str)(s:Shared)(H:Hp)(ex:List Addr):Cx where
 prog:=X.prog
 w:=X.w
 K:=X.K
 mg:=X.mg
 base:=X.base
 A:=X.A
 N:=N'
 s₀:=s
 H₀:=H
 env:=compEnvC scope (j6 scope X.env) C X.env
 outer:=X.stack
 stack:=X.stack
 ex:=ex
 fn:=λ_=>false
 calm:=X.calm
 pn:=[]
 xe:=λ_ _=>False
def j8(X:Cx)(d:List Expr)(t:TT):Prop :=
 ∀(pins:List (Addr×Obj)) (s:Shared) (σ:St) (H:Hp) (Q:Bool->Hp->Prop),Inv X pins σ H s->t σ H Q ->
  wpAny (model X.prog X.w) X.A (forIn d true λc r=>if r=true then do let ok <-isTrue c X.env (eval c X.env);pure (ForInStep.yield ok) else pure (ForInStep.yield r)) (TP X pins σ Q) X.xe s
def T6:TT:=λ_ H Q=>Q true H
def T7:j8 X [] T6:=λ_ _ _ H _ I h=>wpAny_tests_nil ⟨H,I,h⟩
def T8   (h:PT X c t):j8 X [c] t:=λpins s σ H Q I q=>wpAny_tests_one (h _ s σ H Q I q)
def Eh(J:It)(g:TG)(E:TT)(te:TE)(Q:List V->Hp->Prop)(u:St)(I:Hp):Prop :=
 ∃W:Nat->Nat->List V->St->Hp->Prop,(∃m,W 0 m [] u I)/\∀i m f σ H,W i m f σ H ->
  (J.stop i H/\Q f H)\/(J.go i H/\f.length<sizeLine/\∃N:List V->St->Hp->Prop,(∀f t j,N f t j->∃C,C<m/\W (i+1) C f t j)/\∀x j,J.yld i H x j->g x σ j λd G=>E d G λb H3 =>
   if b=true then te d H3 λy F=>N (f++[y]) d F else N f d H3)
def sJ(j:TI)(own:List Str)(cap:List Nat)(g:TG)(m:TT)(te:TE):TE:=λσ H Q =>
 j σ H λJ t=>Eh J g m te (λd f=>d.length<=sizeLine/\∀p,f p=none->Q (.ref p) (upd f p (.lst d))) (compSt own cap σ) t
theorem T9       (I:Nat->Shared->Prop)
  (turn:∀n s,I n s->wpAny (model prog w) A (pyNext it) (λr j=>match r with
   |none=>R (.ok .next) j
   |some v=>wpAny (model prog w) A (letOwnedTupleGo target it v) (λ_ t=>wpAny (model prog w) A (assign target env v) (λ_ C =>
     wpAny (model prog w) A (forIn ifs true λc r=>if r=true then do let ok <-isTrue c env (eval c env);pure (ForInStep.yield ok) else pure (ForInStep.yield r)) (λok f =>
      if ok=true then wpAny (model prog w) A (eval elt env) (λx y =>
       wpAny (model prog w) A (call (.builtin "list.append") [acc,x]) (λ_ u=>∃m,m<n/\I m u) (λ_ _=>False) y) (λ_ _=>False) f
      else ∃m,m<n/\I m f) (λ_ _=>False) C) (λ_ _=>False) t) (λ_ _=>False) j) (λ_ _=>False) s)
  (n:Nat) (h:I n s):
  codeAny (model prog w) A (.compLoop (.ListComp elt [⟨target,iter,ifs,0⟩] scope pos) 0 it acc env) R s:=by
 refine codeAny_loop rfl I (λn s hI=>?_) n h;refine wpAny_noted ?_;rw[compTurn_list];refine za (wpAny_standAt (za (zT (turn n s hI) (λr j F=>?_) λ_ _ d=>d.elim)))
 cases r with
 |none=>exact zb F
 |some v =>
  refine za (zT F (λ_ t G=>?_) λ_ _ d=>d.elim);refine za (zT G (λ_ C O=>za (zT O (λok f E=>?_) λ_ _ d=>d.elim)) λ_ _ d=>d.elim)
  cases ok with
  |false=>exact zb ⟨rfl,E⟩
  |true =>
   exact za (za (zT E (λx y L=>za (zT L (λ_ u J=>zb (zb ⟨rfl,J⟩)) λ_ _ d=>d.elim)) λ_ _ d=>d.elim))
def wN{pins:List (Addr×Obj)}{σ:St}{j:Shared}{x:Hp}{scope d:Scope}{t own:List Str}{cap:List Nat}(u:Inv X pins σ x j)(f:X.env.scope=d)(ok:jx d t scope own cap):∀y∈scope.names,y.2=.free->∃c,X.env.cells.lookup y.1=some c:=λy m e=>by
 refine u.ok.has _ ?_;have q:=ok.free y m e;rw[<-f] at q;exact q
def j9{σ:St}(m:Inv X y σ F C)(d:X.env.scope=u)(ok:jx u E scope own cap)   (h:(j6 scope X.env).lookup x=some c):X.env.cells.lookup x=some c:=by
 rcases wM h with z | ⟨k,f,j,q⟩
 ·simp at z
 ·obtain⟨t,e⟩:=wN m d ok _ f j;have e' :=e;rw[e'] at q;rw[e',<-q];rfl
def Ua{σ:St}(d:Inv X I σ O L)(j:X.env.scope=G)(ok:jx G Q scope own cap)(T:Turn X.prog X.w X.K R J fp it P)(t:P 0 L.heap)(m:∀b∈fp,fB X I O b)
  (C:Addr) (u:L.heap.objs.size<=C):(bG X scope C (bD Q own cap) L O fp).Ok:=by
 have lt:∀b∈fp,b<L.heap.objs.size:=λb f=>by
  obtain⟨o,e,_⟩:=T.obj 0 _ t b f;exact zl e
 have rel:(relabel scope X.env).names=jw scope G:=by rw[<-j];rfl
 refine⟨d.ok.mod,ok.kind,d.ok.glob,d.ok.blt,u,λx y c h1 h2=>?_,λx hx=>?_,λx c hf _=>absurd hf (by simp[bG]),d.ok.hd,d.ok.frames,.inl rfl,λb f=>⟨?_,λx c h=>?_⟩,d.bs,zN d.ok.bsz d.sz,
  λb o e f=>?_,λb f E=>?_,d.stack,d.stkFree⟩
 ·exact d.ok.inj x y c (j9 d j ok h1) (j9 d j ok h2)
 ·have hx':(jw scope G).lookup x=some .cell\/(jw scope G).lookup x=some .free:=by rw[<-rel];exact hx
  have F:(x,NameKind.free)∈scope.names:=by
   rcases hx' with q | q
   ·exact Eg ok.nocell q (.inl rfl)
   ·exact Eg ok.nocell q (.inr rfl)
  exact sH (.inr F)
 ·exact zp (zK (lt b f) u)
 ·exact(m b f).2.2.2.2.1 x c (j9 d j ok h)
 ·rcases(m b f).2.2.2.1 with z | z
  ·exact d.ok.noex b o e z
  ·exact absurd (zK (zl e) (zN d.ok.bsz z)) (zV _)
 ·rcases zk.mp (d.stkSub b E) with z | z
  ·exact(m b f).2.1 z
  ·exact(m b f).2.2.1 z
def Ub{σ:St}(f:Inv X pins σ H2 s2)(d:X.env.scope=sc0)(P:X.N=N0)(ok:jx sc0 N0 scope own cap)(T:Turn X.prog X.w X.K tg J fp it tn)(L:tn 0 s2.heap)(f2:∀b∈fp,fB X pins H2 b)
  (C:Addr) (Y:s2.heap.objs.size<=C)    (t:∀b o,s2.heap.get? b=some o->h₁.get? b=some o) (O:h₁.Ns C m):
  Inv (bG X scope C (bD N0 own cap) s2 H2 fp) [] (compSt own cap σ) H2 {s2 with heap:=h₁,toks:=tk}:=by
 have rel:(relabel scope X.env).names=jw scope sc0:=by rw[<-d];rfl
 refine⟨Ua f d ok T L f2 C Y,rfl,f.bare,Un.kept t,⟨m,O,λi x v e1 e2 _=>?_⟩,λx c h=>?_,f.hok.fresh Y,λx c h=>?_,λp Z=>absurd (show p∈[] from Z) (by simp),f.hok.kept t,?_⟩
 ·have e1':(bD N0 _ _)[i]?=some x:=e1;unfold bD at e1';unfold compSt at e2
  by_cases W:i<own.length
  ·rw[zF (by simpa ),zC] at e2
   cases q:own[i]? with
   | none
   |some z=>rw[q] at e2;cases e2
  ·rw[zL (by simpa using W),zC] at e2;rw[zL (by simpa using W),zC] at e1';rw[zf] at e2
   cases q:cap[i - own.length]? with
   |none=>rw[q] at e2;cases e2
   |some j =>
    rw[q] at e1' e2;have ex:N0.getD j _=x:=zE e1';have F:σ[j]?.join=some v:=zE e2;obtain⟨U,I,R⟩:=ok.cap j (zJ q);rw[ex] at I R
    have eN:X.N[j]?=some x:=by
     rw[P,zt U];rw[jf,zt U] at ex;exact congrArg _ ex
    have Q:σ[j]?=some (some v):=by
     cases z:σ[j]? with
     |none=>rw[z] at F;cases F
     |some o=>rw[z] at F;cases o with
      | none
      |some y=>exact congrArg _ F
    have kf:X.env.kindOf x=some .cell\/X.env.kindOf x=some .free:=by
     have z:=ok.free _ I rfl;rw[<-d] at z;exact z
    obtain⟨m0,hn0,hl⟩:=f.loc;obtain⟨u,r,l⟩:=hl j x v eN Q (kf.elim (λz=>.inr (.inl z)) λz=>.inr (.inr z));refine⟨u,r,.inr ⟨?_,?_⟩⟩
    ·show(relabel _ _).names.lookup x=_\/(relabel _ _).names.lookup x=_;rw[rel];exact R
    ·rcases l with⟨l,_⟩ | ⟨_,c,hc,⟨o,G,hd⟩⟩
     ·rcases kf with z | z<;>(rw[z] at l;cases l)
     ·obtain⟨c',E⟩:=sH (.inr I);have z:=j9 f d ok E;rw[hc] at z;cases z;exact⟨c,E,o,t _ _ G,hd⟩
 ·obtain⟨v,o,G,hd⟩:=f.cell x c (j9 f d ok h);exact⟨v,o,t _ _ G,hd⟩
 ·exact f.freeC x c (j9 f d ok h)
 ·show(compSt _ _ σ).length=(bD N0 _ _).length;unfold compSt bD;simp
def Ei{σ:St}  {RR:Value->Addr->Result->Shared->Prop}  (hc:X.calm=true)(I2:Inv X pins σ H2 f)(hsc:X.env.scope=sc0)(hN0:X.N=Z)(ok:jx sc0 Z scope own cap)
  (hg:∀C s H ex,PG (bG X scope C (bD Z own cap) s H ex) tg g) (ht:∀C s H ex,j8 (bG X scope C (bD Z own cap) s H ex) ifs tt) (he:∀C s H ex,PE (bG X scope C (bD Z own cap) s H ex) elt te)
  (T:Turn X.prog X.w X.K tg J fp it tn) (st2:tn 0 f.heap) (f2:∀b∈fp,fB X pins H2 b) (hW:Eh J g tt te Q (compSt own cap σ) H2)
  (hRR:∀D C oC ys L Y,Inv X (pins++[(C,oC)]) σ (upd L D (.lst ys)) Y->(∀h:Heap,h.get? C=some oC->∃m,h.Ns C m)->fB X pins (upd L D (.lst ys)) C->L D=none->Q ys L->RR (.ref D) C (.ok .next) Y)
  (hQsz:∀ys L,Q ys L->ys.length<=sizeLine):
  wpAny (model X.prog X.w) X.A (newList []) (λacc R=>wpAny (model X.prog X.w) X.A (newFunctionEnv scope X.env.globals (j6 scope X.env) [] X.env.qual none .none (some X.env)) (λcenv s₄ =>
   codeAny (model X.prog X.w) X.A (.compStart (.ListComp elt [⟨tg,iter,ifs,0⟩] scope pos) 0 (.ref it) acc {cenv with scope:=relabel scope X.env}) (RR acc cenv.locals) s₄) E R) E f:=by
 refine wpAny_newObj_type (wpAny_newFunctionEnv ok.nocell (by intro y hy;simp at hy) (λh₁ P F=>?_) ok.kind);dsimp only at P F ⊢
 generalize hP2:f.heap.push {cls:=.type "list",dict:=none,data:=.seq ([]:List Value).toArray}=G at P F ⊢
 have hC:G.objs.size=f.heap.objs.size+1:=by rw[<-hP2,Heap.size_push]
 have hDC:f.heap.objs.size≠G.objs.size:=by rw[hC];exact zp (jd _)
 have hCle:f.heap.objs.size<=G.objs.size:=by rw[hC];exact Nat.le_succ _
 have below:∀b,b<f.heap.objs.size->b≠G.objs.size/\b≠f.heap.objs.size:=λb t=>⟨by rw[hC];exact zp (jk t),zp t⟩
 have ltf:∀b∈fp,b<f.heap.objs.size:=λb t=>by
  obtain⟨o,e,_⟩:=T.obj 0 _ st2 b t;exact zl e
 have old:∀b o,f.heap.get? b=some o->h₁.get? b=some o:=λb o e=>F.extBut b o (below b (zl e)).1 (zo _ (hP2 ▸ zo _ e))
 have hacc:h₁.PlainList f.heap.objs.size #[]:=⟨_,F.extBut _ _ hDC (zo _ (hP2 ▸ zy _ rfl))⟩
 have st₁:tn 0 h₁:=T.keep _ _ _ st2 λb _ o e=>old b o e
 have hDno:∀b∈fp,f.heap.objs.size≠b:=λb t=>(below b (ltf b t)).2.symm
 generalize hXe:bG X scope G.objs.size (bD Z own cap) f H2 fp=X'
 have loop:∀R:Shared,R = {f with heap:=h₁,toks:=f.toks+([]:List (Str×Value)).length} ->
   codeAny (model X.prog X.w) X.A (.compLoop (.ListComp elt [⟨tg,iter,ifs,0⟩] scope pos) 0 (.ref it) (.ref f.heap.objs.size) (compEnvC scope (j6 scope X.env) G.objs.size X.env))
    (RR (.ref f.heap.objs.size) G.objs.size) R:=by
  rintro R rfl;obtain⟨W,⟨m0,w0⟩,turn⟩:=hW;subst hXe
  have stat:∀{L:Hp}{oD:Obj},(∀b∈fp,L b=none)->∀b∈fp,fB (bG X scope G.objs.size (bD Z own cap) f H2 fp) [(f.heap.objs.size,oD)] L b:=λ{L oD} hn b t =>
   ⟨hn b t,(below b (ltf b t)).1,λz=>by
    rcases zk.mp (I2.stkSub b z) with z | z
    ·exact(f2 b t).2.1 z
    ·exact(f2 b t).2.2.1 z,.inl t,λx c h=>(f2 b t).2.2.2.2.1 x c (j9 I2 hsc ok h),λp hp=>by
    have e:p=(f.heap.objs.size,oD):=by simpa [bG] using hp
    rw[e];exact hDno b t⟩
  have notcell:∀x c,(j6 scope X.env).lookup x=some c->c≠f.heap.objs.size:=λx c h z=>by
   obtain⟨v,o,ho,hd⟩:=I2.cell x c (j9 I2 hsc ok h);exact absurd (zl ho) (by rw[z];exact zV _)
  have nofs:f.heap.objs.size∉frs X.stack:=λz=>by
   rcases zk.mp (I2.stkSub _ z) with z | z
   ·exact absurd I2.lt (by rw[z];exact zV _)
   ·exact I2.nofs (zc _) z
  have pinD:∀{O:St}{L:Hp}{Y:Shared}{j:Array Value}{k:Nat},Inv (bG X scope G.objs.size (bD Z own cap) f H2 fp) [] O L Y->L f.heap.objs.size=none ->
    Y.heap.get? f.heap.objs.size=some {cls:=.type "list",data:=.seq j k}->Inv (bG X scope G.objs.size (bD Z own cap) f H2 fp) [(f.heap.objs.size,{cls:=.type "list",data:=.seq j k})] O L Y :=
   λ{O L Y j k} I hn hd=>I.pins_of λp hp=>by
    have e:p=(f.heap.objs.size,{cls:=.type "list",data:=.seq j k}):=by simpa using hp
    subst e;exact⟨hd,hn,hDC,nofs,λv z=>by cases z⟩
  obtain⟨k0,hk0⟩:=hacc;refine T9 (env:=compEnvC scope (j6 scope X.env) G.objs.size X.env)
   (λn Y=>∃i ys j k O L,Inv (bG X scope G.objs.size (bD Z own cap) f H2 fp) [(f.heap.objs.size,{cls:=.type "list",data:=.seq j k})] O L Y/\tn i Y.heap/\(∀b∈fp,L b=none)/\aF ys j.toList/\W i n ys O L) ?_ m0
   ⟨0,[],#[],k0,_,H2,pinD (Ub I2 hsc hN0 ok T st2 f2 _ hCle old P) (I2.hok.fresh (zc _)) hk0,st₁,λb t=>(f2 b t).1,.nil,w0⟩
  rintro n s3 ⟨i,ys,j,k,σ3,H3,I3,st3,fr3,hv,w3⟩
  rcases turn i n ys σ3 H3 w3 with⟨stop,qn⟩ | ⟨go,hsz,N,hN,step⟩
  ·refine thn (T.done (bG X scope G.objs.size (bD Z own cap) f H2 fp) rfl rfl rfl hc i _ s3 σ3 H3 _ I3 (stat fr3) st3 stop) λr s4 ⟨hr,I4⟩=>?_
   subst hr;show RR _ _ (.ok .next) s4;obtain⟨hd4,U,_⟩:=I4.pin (f.heap.objs.size,{cls:=.type "list",data:=.seq j k}) (by simp[bG]);dsimp only at hd4 U;obtain⟨m4,hns4,_⟩:=id I4.loc;have hns4':s4.heap.Ns G.objs.size m4:=hns4;obtain⟨oC,es,ep,hoC,rC⟩:=id hns4';have cne:G.objs.size≠f.heap.objs.size:=hDC.symm;have freeC:H3 G.objs.size=none:=I4.free;have hchC:fB X pins (upd H3 f.heap.objs.size (.lst ys)) G.objs.size:=I2.fpOk hCle (by rw[aD cne];exact freeC)
   have hlen:ys.length=j.size:=by have e:=hv.length;simpa using e
   have I5:Inv X pins σ (upd H3 f.heap.objs.size (.lst ys)) s4:=by
    refine I2.call' (ch:=fp) I4.os ⟨I4.base.keep,I4.base.slot,λb o e n hx=>?_,I4.base.there,λb xs e=>?_,λb o u e=>?_,λb ps e=>?_⟩ (λb u e=>?_) I4.bare λb t=>?_
    ·rw[aD (zp (zl e))];exact I4.base.free b o e n hx
    ·have q:=I4.base.tups b xs e;rw[aD (bT q U)];exact q
    ·have q:=I4.base.frzs b o u e;rw[aD (bT q U)];exact q
    ·obtain⟨more,q⟩:=I4.base.tbls b ps e;exact⟨more,by rw[aD (bT q U)];exact q⟩
    ·by_cases t:b=f.heap.objs.size
     ·subst t;rw[bx] at e;cases e;exact⟨hQsz ys H3 qn,j.toList,k,hv,by simpa using hd4⟩
     ·rw[aD t] at e
      exact(I4.hok b u e).stay (λ_ _ _ q=>q) (λc q=>by rw[aD (bT q U)];exact q) λc xs q=>by rw[aD (bT q U)];exact q
    ·obtain⟨_,a2,_,a4,a5,a6⟩:=f2 b t;exact⟨a4,a2,a5,a6⟩
   refine hRR f.heap.objs.size G.objs.size oC ys H3 s4 (I5.pins_of λp hp=>?_) (λh e=>⟨m4,oC,es,ep,e,rC⟩) hchC U qn
   rcases zx.mp hp with z | z
   ·exact I5.pin p (zH _ z)
   ·have e:p=(G.objs.size,oC):=by simpa using z
    subst e
    exact⟨hoC,hchC.1,hchC.2.1,hchC.2.2.1,λv z=>by
     have:=rC.1
     rw[this] at z;cases z⟩
  ·refine thn (T.item (bG X scope G.objs.size (bD Z own cap) f H2 fp) rfl rfl rfl hc i _ s3 σ3 H3 _ I3 (stat fr3) st3 go) λr s4 ⟨u,hr,h4⟩=>?_
   subst hr
   refine thn h4 λ_ s5 ⟨x,H5,I5,r5,y5,st5,fr5⟩=>?_
   have I5':=I5.pinned (stat fr5) (T.obj _ _ st5)
   refine thn (hg _ _ _ _ _ s5 σ3 H5 x u _ I5' r5 (step x H5 y5)) λ_ s6 ⟨σ6,H6,I6,q6⟩=>?_
   refine thn (ht _ _ _ _ _ s6 σ6 H6 _ I6 q6) λb s7 ⟨H7,I7,q7⟩=>?_
   have keepT:∀{O:St}{L:Hp}{Y:Shared},Inv (bG X scope G.objs.size (bD Z own cap) f H2 fp) ([(f.heap.objs.size,{cls:=.type "list",data:=.seq j k})]++pJ fp s5.heap) O L Y->tn (i+1) Y.heap/\∀b∈fp,L b=none:=λ{O L Y} I'=>by
    refine⟨T.keep _ _ _ st5 λb t o e=>(I'.pin (b,o) (zH _ (zH _ (rN t e)))).1,λb t=>?_⟩;obtain⟨o,e,d⟩:=T.obj _ _ st5 b t;exact(I'.pin (b,o) (zH _ (zH _ (rN t e)))).2.1
   cases b with
   |false =>
    rw[if_neg zA] at q7 ⊢;obtain⟨m',hm,w7⟩:=hN _ _ _ q7;obtain⟨a,b⟩:=keepT I7;exact⟨m',hm,i+1,ys,j,k,σ6,H7,I7.unpinned,a,b,hv,w7⟩
   |true =>
    rw[if_pos rfl] at q7 ⊢
    refine thn (he _ _ _ _ _ s7 σ6 H7 _ I7 q7) λv s8 ⟨y,H8,I8,r8,q8⟩=>?_
    obtain⟨m',hm,w8⟩:=hN _ _ _ q8;obtain⟨a,b⟩:=keepT I8;obtain⟨hd8,hn8,_⟩:=I8.pin (f.heap.objs.size,{cls:=.type "list",data:=.seq j k}) (by simp[bG]);dsimp only at hd8 hn8
    have hl:j.size<=sizeLine:=by
     have e:=hv.length;simp at e;omega
    refine wpAny_list_append_plain (hsz:=hl) ⟨k,hd8⟩ λh9 hl9 hs9=>?_
    obtain⟨k9,hd9⟩:=hl9
    have I8':Inv (bG X scope G.objs.size (bD Z own cap) f H2 fp) [] σ6 H8 s8:=I8.pins_of λp hp=>absurd hp (by simp)
    have I9:Inv (bG X scope G.objs.size (bD Z own cap) f H2 fp) [] σ6 H8 {s8 with heap:=h9}:=
     I8'.turned (t':=s8.toks) (it:=f.heap.objs.size) (λb o t e=>hs9.extBut b o t e) hn8 hDC (.inr (zc _)) notcell (λp hp=>absurd (show p∈([]:List (Addr×Obj)) from hp) (by simp))
    refine⟨m',hm,i+1,ys++[y],j.push v,k9,σ6,H8,pinD I9 hn8 hd9,T.keep _ _ _ a λb t o e=>hs9.extBut b o (hDno b t).symm e,b,?_,w8⟩;rw[Array.toList_push];exact hv.append (.cons r8 .nil)
 exact codeAny_compStart_list (loop _ rfl) (T.self _ 0 _ _ _ st₁ (loop _ rfl))
def Ej{u:Pos}  (f:Scope)(d own:List Str)(cap:List Nat)(hc:X.calm=true)(Y:PI X tg iter wi)
  (Z:∀C s H ex,PG (bG X scope C (bD d own cap) s H ex) tg g) (U:∀C s H ex,j8 (bG X scope C (bD d own cap) s H ex) ifs tt) (he:∀C s H ex,PE (bG X scope C (bD d own cap) s H ex) elt te)
  (j:X.env.scope=f:=by rfl) (F:X.N=d:=by rfl) (ok:j7 f d scope own cap=true:=by decide +kernel) (hs:∀x,foldedSetIterable iter X.env x=pure x:=by intro _;rfl):
  PE X (.ListComp elt [⟨tg,iter,ifs,0⟩] scope u) (sJ wi own cap g tt te):=by
 intro pins s σ H Q I h;have ok:=jx.of ok;refine wpAny_comprehension_free rfl hs (Ef (wN I j ok)) ok.kind ok.names (thn (Y _ s σ H _ I h) λxv s1 h1=>thn h1 λitv s2 h2=>?_);obtain⟨it,fp,tn,J,H2,e,I2,T,t,f2,hW⟩:=h2;subst e
 refine Ei hc I2 j F ok Z U he T t f2 hW (λD C R P O s' L E G hD q=>?_) λP O q=>q.1
 obtain⟨hC⟩:=L.pin (C,R) (by simp);obtain⟨m,W⟩:=E _ hC;refine⟨m,W,λh' y=>⟨.ref D,upd O D _,?_,rfl,q.2 D hD⟩⟩;obtain⟨f0,f1,f2',f3,f4,f5⟩:=G;exact L.unpinned.turned (λb o hb e=>y.extBut b o hb e) f0 f1 f3 f4 f5
def Ek    {d:Pos}(u:Scope)(j own:List Str)(cap:List Nat)(hN:X.N.Nodup)(hx:X.N[i]?=some x)(hl:Loc X.env.scope x)(hc:X.calm=true)(hi:PI X tg iter wi)
  (hg:∀C s H ex,PG (bG X scope C (bD j own cap) s H ex) tg g) (ht:∀C s H ex,j8 (bG X scope C (bD j own cap) s H ex) ifs tt) (he:∀C s H ex,PE (bG X scope C (bD j own cap) s H ex) elt te)
  (L:swapsWith (.ListComp elt [⟨tg,iter,ifs,0⟩] scope pos) (some (.Name x pos')) d.line X.env=pure true:=by rfl)
  (hf:X.fn x=true\/X.env.scope.names.lookup x=some .local:=by first | exact .inl rfl | exact .inr rfl | assumption)
  (y:X.env.scope=u:=by rfl) (R:X.N=j:=by rfl) (ok:j7 u j scope own cap=true:=by decide +kernel) (hs:∀x,foldedSetIterable iter X.env x=pure x:=by intro _;rfl):
  PS X (.Assign [.Name x pos'] (.ListComp elt [⟨tg,iter,ifs,0⟩] scope pos) d) (pI (sJ wi own cap g tt te) (pH i)):=by
 intro pins s σ H D I h;have ok:=jx.of ok;rw[exec_Assign_Name_used _ _ _ _ L];refine za (wpAny_standAt (za ?_));show wpAny _ X.A (do let _ <-comprehension (.ListComp elt [⟨tg,iter,ifs,0⟩] scope pos) scope X.env _ (newList []) false (eval iter X.env) (some (assign (.Name x pos') X.env))) _ _ s
 refine za (zT (wpAny_comprehension_free (use:=some (assign (.Name x pos') X.env)) (Q:=λ_ f=>SP X pins D .next f) rfl hs (Ef (wN I y ok)) ok.kind ok.names
  (thn (hi pins s σ H _ I h) λxv s1 h1=>thn h1 λitv s2 h2=>?_)) (λ_ f hq=>zb (zb hq)) λ_ _ e=>e)
 obtain⟨it,fp,tn,J,H2,e,I2,T,F,f2,hW⟩:=h2;subst e
 refine Ei (RR:=λW C=>compPost (model X.prog X.w) X.A X.xe (some (assign (.Name x pos') X.env)) (λ_ f=>SP X pins D .next f) W C) hc I2 y R ok hg ht he T F f2 hW (λt C oC Y Z f I' P U hD q=>?_) λY Z q=>q.1
 show wpAny _ X.A (assign (.Name x pos') X.env (.ref t)) _ _ _;refine wpAny_assign_Name (vP (v:=.ref t) I' hN hx hl rfl (λG E=>?_) hf);obtain⟨hC,hCn,_⟩:=E.pin (C,oC) (by simp);obtain⟨m,hm⟩:=P _ hC;refine⟨m,hm,λh' O=>⟨σ.set i (some (.ref t)),upd Z t (.lst Y),?_,q.2 t hD⟩⟩;obtain⟨f0,f1,f2',f3,f4,f5⟩:=U;exact E.unpinned.turned (t':=G.toks) (it:=C) (λb o hb e=>O.extBut b o hb e) f0 f1 f3 f4 f5
inductive Can (P:Program) (w:World) (K:PySem.W.Frag) (mg:Str->Option Value) (base:Heap) (x:Str) (ps:List Str) (k:Nat) (sp:Sp):Prop
 | mk:∀f fd,mg x=some (.ref f)->PySem.W.keepIn K (.ref f)=true->Binds K fd ps []->cz P w K mg base CX0 k f fd ps sp->(∃oc od osl,K.lookup f=some ⟨oc,od,.func fd,osl⟩)->Can P w K mg base x ps k sp
def Def(K:PySem.W.Frag)(mg:Str->Option Value)(x:Str)(st:Stmt):Prop:=∃f fd,mg x=some (.ref f)/\Fun K x x st f fd
def Def.can{K:PySem.W.Frag}  {st:Stmt}    (D:Def K mg x st)(S:dZ N ps (aO st))
  (hb:∀(kV u y:Value) (L:Option Addr) (d ct:Value) (us:List Value),us.length=ps.length->bindArgs (PySem.W.fnOf x x (cP st) (bY st) (aO st) .none kV u y L d ct) ⟨us,[]⟩=pure (ps.zip us))
  (len:∀vs H Q E,sp vs H Q E->vs.length=ps.length)
  (j:∀(f:Addr) (d:Value) (A:Around) (outer:List Env) (s:Shared) (H:Hp) (vs:List V) (Q:VK) (E:XK),aW k (A.deeper (envOfC x (aO st) s.heap.objs.size f d))->sp vs H Q E ->
   ∃t,PSs (fU CX0 P w K mg base N x (aO st) f d A outer s H E).nox (bY st) t/\t {nx:=λ_ O=>Q .non O,rt:=Q} (start N vs) H):Can P w K mg base x ps (k+1) sp:=by
 obtain⟨f,fd,J,F⟩:=D;obtain⟨G,C,_,_,_,_,_,_,m,_,lk,_⟩:=F.ex;exact⟨f,fd,J,F.kp,F.binds hb,F.ok S len λd A outer s H vs Q E I h=>j f d A outer s H vs Q E I h,G,C,m,lk⟩
def Uc{p d:Pos}(C:Can X.prog X.w X.K X.mg X.base x ps k sp)(u:aW k X.A)(L:PA X (e::es) t)(G:Gl X x:=by rfl)(m:(x == ("__debug__":Str))=false:=by decide)
  (I:starEach (e::es) X.env=(false,eval e X.env)::starEach es X.env:=by rfl) (j:(backTo d (starEach es X.env)).any (·.1)=false:=by rfl):
  PE X (.Call (.Name x p) (e::es) [] d) (wk sp [] E0 t):=by
 obtain⟨f,fd,y,E,J,F,_⟩:=C;exact Dn F u G y E J .nil lM L m I j
def Same.seqT{K:PySem.W.Frag}    (e:Same H d)(h:SqT K H a xs):SqT K d a xs:=by
 rcases h with(h | ⟨o,h⟩) | h
 ·exact .inl (.inl (e _ _ h))
 ·exact .inl (.inr ⟨o,e _ _ h⟩)
 ·exact .inr h
mutual
def Rep(K:PySem.W.Frag)(H:Hp):V->PyData->Prop
 |v,.none=>v=.non
 |v,.bool b=>v=.bl b
 |v,.int i=>v=.int i
 |v,.str x=>v=.str x
 |v,.list ds=>∃a d,v=.ref a/\SqL K H a d/\bZ K H d ds
 |v,.tuple ds=>∃a d,v=.ref a/\SqT K H a d/\bZ K H d ds
 | _,.dict _=>False
def bZ(K:PySem.W.Frag)(H:Hp):List V->List PyData->Prop
 |xs,[]=>xs=[]
 |xs,d::ds=>∃x r,xs=x::r/\Rep K H x d/\bZ K H r ds
end
mutual
theorem Rep.mono{K:PySem.W.Frag}  (e:Same H H'):∀(d:PyData) {v:V},Rep K H v d->Rep K H' v d
 | .none,v,h=>by exact h
 | .bool b,v,h=>by exact h
 | .int i,v,h=>by exact h
 | .str x,v,h=>by exact h
 | .list ds,v,h=>by
  obtain⟨a,f,h1,h2,h3⟩:=h;exact⟨a,f,h1,e.seq h2,bZ.mono e ds h3⟩
 | .tuple ds,v,h=>by
  obtain⟨a,f,h1,h2,h3⟩:=h;exact⟨a,f,h1,e.seqT h2,bZ.mono e ds h3⟩
 | .dict _,v,h=>by exact h.elim
theorem bZ.mono{K:PySem.W.Frag}{H f:Hp}(e:Same H f):∀(ds:List PyData) {xs:List V},bZ K H xs ds->bZ K f xs ds
 | [],xs,h=>by rw[bZ] at h ⊢;exact h
 |d::ds,xs,h=>by
  rw[bZ] at h ⊢;obtain⟨x,r,h1,h2,h3⟩:=h;exact⟨x,r,h1,Rep.mono e d h2,bZ.mono e ds h3⟩
end
def bZ.nil{K:PySem.W.Frag} :bZ K H [] []:=by rw[bZ]
def bZ.cons{K:PySem.W.Frag}{H:Hp}{x:V}{xs:List V}{d:PyData}{ds:List PyData}(h:Rep K H x d)(hs:bZ K H xs ds):bZ K H (x::xs) (d::ds):=by
 rw[bZ];exact⟨x,xs,rfl,h,hs⟩
mutual
theorem Rep.reads{pins:List (Addr×Obj)}{σ:St}{H:Hp}{s:Shared}(I:Inv X pins σ H s):∀(d:PyData) {v:V}{u:Value},Rep X.K H v d->RelV v u->∃E,Reads s.heap u d E
 | .none,v,u,h,r=>by subst h;cases(r);exact⟨_,.none⟩
 | .bool b,v,u,h,r=>by subst h;cases(r);exact⟨_,.bool b⟩
 | .int i,v,u,h,r=>by subst h;obtain⟨t,rfl⟩:=(r);exact⟨_,.int i t⟩
 | .str x,v,u,h,r=>by subst h;obtain⟨t,rfl⟩:=(r);exact⟨_,.str x t⟩
 | .list ds,v,u,h,r=>by
  obtain⟨a,C,rfl,h2,h3⟩:=h;cases(r);obtain⟨y,f,pl,_⟩:=I.list h2;obtain⟨q⟩:=bZ.reads I ds h3 f;obtain⟨o,j,m,n,hd⟩:=pl.isList;exact⟨_,.list j m hd (by simpa )⟩
 | .tuple ds,v,u,h,r=>by
  obtain⟨a,C,rfl,h2,h3⟩:=h;cases(r);obtain⟨y,f,pl,_⟩:=I.tuple h2;obtain⟨q⟩:=bZ.reads I ds h3 f;obtain⟨o,j,m,n,hd⟩:=pl;exact⟨_,.tuple j m hd (by simpa )⟩
 | .dict _,v,u,h,r=>by exact h.elim
theorem bZ.reads(I:Inv X pins σ H s):∀(ds:List PyData) {xs:List V}{us:List Value},bZ X.K H xs ds->aF xs us->∃f,ReadsAll s.heap us ds f
 | [],xs,us,h,r=>by rw[bZ] at h;subst h;cases r;exact⟨_,.nil⟩
 |d::ds,xs,us,h,r=>by
  rw[bZ] at h;obtain⟨x,rest,rfl,h2,h3⟩:=h
  cases r with
  |cons r1 r2 =>
   obtain⟨f,q⟩:=Rep.reads I d h2 r1;obtain⟨bs,j⟩:=bZ.reads I ds h3 r2;exact⟨_,.cons q j⟩
end
def okD(d:PyData):Bool:=d.canLay0&&decide (d.depth<=60)
def El(K:PySem.W.Frag)(f:Bool):R2:=λx y H Q=>∃d e,Rep K H x d/\Rep K H y e/\okD d=true/\okD e=true/\Q (.bl (if f then !PyData.eqv d e else PyData.eqv d e)) H
def Ud  (F:aW k X.A):OpR X (compareOp .Eq) (El X.K false):=by
 intro pins s σ H x y v u Q I t m h;obtain⟨d,e,h1,h2,j,f,q⟩:=h;obtain⟨G,E⟩:=Rep.reads I d h1 t;obtain⟨bs,C⟩:=Rep.reads I e h2 m;unfold okD at j f;simp   at j f;exact SeqAt.compareEq_reads E C j.1 f.1 (by have:=F.units;omega) ⟨.bl _,H,I,rfl,q⟩
def Ue  (F:aW k X.A):OpR X (compareOp .NotEq) (El X.K true):=by
 intro pins s σ H x y v u Q I t m h;obtain⟨d,e,h1,h2,j,f,q⟩:=h;obtain⟨G,E⟩:=Rep.reads I d h1 t;obtain⟨bs,C⟩:=Rep.reads I e h2 m;unfold okD at j f;simp   at j f;exact SeqAt.compareNe_reads E C j.1 f.1 (by have:=F.units;omega) ⟨.bl _,H,I,rfl,q⟩
def S(l:List Nat):Str:=⟨l.toArray⟩
def lN(l:List Nat):(S l).cps.toList=l:=by simp[S]
def gK(l:List Nat):(S l).length=l.length:=by simp[S,Str.length]
def Ug(x:Str):S x.cps.toList=x:=by simp[S]
def Uh(a b:List Nat):S a++S b=S (a++b):=by
 show Str.mk _=Str.mk _;simp[S]
def nG  (h:S a=S b):a=b:=by have:=congrArg (λx =>x.cps.toList) h;simpa [lN]
def Ui:OpR X (compareOp .LtE) (λx y H Q=>∃i j,x=.str i/\y=.str j/\Q (.bl (!decide (j.cps.toList<i.cps.toList))) H):=by
 intro pins s σ H x y v u Q I f d h;obtain⟨i,j,rfl,rfl,q⟩:=h;obtain⟨t,rfl⟩:=f;obtain⟨m,rfl⟩:=d;exact P.le_str ⟨.bl _,H,I,rfl,q⟩
def Uj:OpR X (compareOp .In) (λx y H Q=>∃c l,x=.str (S [c])/\y=.str (S l)/\Q (.bl (decide (c∈l))) H):=by
 intro pins s σ H x y v u Q I f d h;obtain⟨c,l,rfl,rfl,q⟩:=h;refine Ri pins s σ H _ _ v u Q I f d ⟨S [c],S l,rfl,rfl,?_⟩;have e:=PySem.StrLaws.found_one (S l) c;rw[lN] at e;show Q (.bl (!(Builtin.Str.occurrences (S l) (S [c]) 0 (S l).length 1).isEmpty)) H;rw[show S [c]=⟨#[c]⟩ from rfl,e];exact q
def Uk:OpR X (compareOp .NotIn) (λx y H Q=>∃c l,x=.str (S [c])/\y=.str (S l)/\Q (.bl (!decide (c∈l))) H):=by
 intro pins s σ H x y v u Q I f d h;obtain⟨c,l,rfl,rfl,q⟩:=h;refine Rj _ s σ H _ _ v u Q I f d ⟨S _,S l,rfl,rfl,?_⟩;have e:=PySem.StrLaws.found_one;rw[show S _=⟨#[c]⟩ from rfl,e];exact q
def Its(l:List Nat):It:=⟨λi _=>i<l.length,λi H x d=>d=H/\∃c,l[i]?=some c/\x=.str (S [c]),λi _=>l.length<=i⟩
def Ul   {K:PySem.W.Frag}  (l:List Nat)(it:Addr)(t:Tok):Turn P w K tg (Its l) [it] it (λi h=>h.IsStrIter it "str_ascii_iterator" (S l) t i) where
 mem:=by simp
 obj:=λi h st b hb=>by
  have e:b=it:=by simpa using hb
  subst e;obtain⟨o,e,c,d⟩:=st;exact⟨o,e,λv z=>by rw[d] at z;cases z⟩
 keep:=λi h h' st k=>let ⟨o,ho,r⟩:=st;⟨o,k it (by simp) o ho,r⟩
 item:=by
  intro X hP hw hK hc i pins s σ H E I hf st hg;subst hP hw hK;obtain⟨f0,f1,f2,f3,f4,f5⟩:=hf it (by simp);have hg':i<l.length:=hg
  refine wpAny_pyNext_ascii_item st (c:=l[i]) (by simp[S,hg']) λh' st' sb=>?_
  have I1:Inv X pins σ H {s with heap:=h',toks:=s.toks+1}:=I.turned (λb o hb e=>(sb.2 b hb).trans e) f0 f1 f3 f4 f5;obtain⟨o,e,c,d⟩:=id st';exact⟨_,rfl,nj (s:={s with heap:=h',toks:=s.toks+1}) e c d (by decide) ⟨.str (S [l[i]]),H,I1,⟨_,rfl⟩,⟨rfl,l[i],by simp[hg'],rfl⟩,st',λb hb=>(hf b hb).1⟩⟩
 done:=by
  intro X hP hw hK hc i pins s σ H E I hf st hg;subst hP hw hK;obtain⟨f0,f1,f2,f3,f4,f5⟩:=hf it (by simp);have hg':l.length<=i:=hg
  exact wpAny_pyNext_ascii_end (I.ok.hd hc) st (by simp[S,hg']) λh' eb=>⟨rfl,I.turned (t':=s.toks) (λb o hb e=>eb b o hb e) f0 f1 f3 f4 f5⟩
 self:=λ_ _ _ _ _ st h=>wpAny_pyIter_striter_ascii st h
def ascii(l:List Nat):Bool:=l.all (· < 128)
def Um(tl:TE):TI:=λσ H R=>tl σ H λx d=>∃l,x=.str (S l)/\ascii l=true/\R (Its l) d
def Uo   (d:PE X e tl):PI X m e (Um tl):=by
 intro pins s σ H R I h
 refine thn (d _ s σ H _ I h) λv s1 ⟨x,H1,I1,r1,q1⟩=>?_
 obtain⟨l,e,j,q⟩:=q1;subst e;obtain⟨t,rfl⟩:=r1;refine wpAny_pyIter_ascii (by simpa [S,ascii] using j) ?_;refine⟨s1.heap.objs.size,[s1.heap.objs.size],_,_,H1,rfl,I1.kept λb o e=>zo _ e,Ul l _ t,⟨_,zy _ rfl,rfl,rfl⟩,λb f=>?_,q⟩
 have e :=by simpa using f
 subst e;exact I1.fpOk (zc _) (I1.hok.fresh (zc _))
def Up(J:X.calm=true):cZ X (.builtin "all") (λxs H Q=>∃(a:Addr) (bs:List Bool),xs=[.ref a]/\SqL X.K H a (bs.map V.bl)/\Q (.bl (bs.all id)) H):=by
 intro pins s σ H xs P Q I r h;obtain⟨a,bs,rfl,O,q⟩:=h;obtain⟨u,rfl,m⟩:=vals1 r;cases m;obtain⟨d,j,p,T⟩:=I.list O;refine call_all_walk (wpAny_pyIter_list p.isList ?_);have y:a≠s.heap.objs.size:=zp (zl p.isList.choose_spec.1)
 refine⟨s.heap.objs.size,_,_,d.toArray.size,_,_,λi=>bs.getD i true,rfl,Walks.list (A:=X.A.in1) (I.ok.hd J) s.heap.objs.size a y d.toArray,
  ⟨⟨_,zy _ rfl,rfl,rfl⟩,p.isList.at λo e=>zo _ e⟩,λi v R W Y C F=>?_,λU tk G=>?_⟩
 ·have L:(bs.map V.bl)[i]?=some (V.bl (bs.getD i true)):=by
   have f:i<d.length:=by
    have z:=Array.getElem?_eq_some_iff.mp C;simpa using z.1
   have t:=j.length;rw[zf] at t;rw[zC,zt (by omega),jf,zt (by omega)];rfl
  obtain⟨u,E,m⟩:=j.get L
  have hv':d[i]?=some v:=by simpa using C
  rw[hv'] at E;cases E;cases(show v=.bool _ from m);exact wpAny_truthy_bool F
 ·refine⟨.bl (bs.all id),H,I.kept λb o e=>G b o (λz=>?_) (zo _ e),?_,q⟩
  ·have z':b=s.heap.objs.size:=by simpa using z
   exact absurd (zl e) (by rw[z'];exact zV _)
  ·have t:d.length=bs.length:=by have:=j.length;rw[zf] at this;exact this.symm
   have e:(List.range d.toArray.size).all (λi=>bs.getD i true)=bs.all id:=by
    rw[zI,t];rw[Bool.eq_iff_iff,jj,jj];constructor
    ·intro h x hx;obtain⟨i,f,rfl⟩:=List.mem_iff_getElem.mp hx
     have:=h i (List.mem_range.mpr f)
     rw[jf,zt f] at this;exact this
    ·intro h i f;have hi':=List.mem_range.mp f;rw[jf,zt hi'];exact h _ (ja hi')
   show Value.bool _=Value.bool _;rw[e]
def Uq(U:X.calm=true):cZ X (.builtin "sum") (λxs H Q=>∃(a:Addr) (ns:List Int),xs=[.ref a]/\SqL X.K H a (ns.map V.int)/\(∀n∈ns,0<=n/\n<=1000000)/\ns.length<=1000000/\Q (.int ns.sum) H):=by
 intro pins s σ H xs us Q I r h;obtain⟨a,ns,rfl,W,J,Z,q⟩:=h;obtain⟨u,rfl,m⟩:=vals1 r;cases m;obtain⟨d,C,p,hz⟩:=I.list W;have y:a≠s.heap.objs.size:=zp (zl p.isList.choose_spec.1)
 have R:d.length=ns.length:=by have:=C.length;rw[zf] at this;exact this.symm
 have pre:∀j,j<=ns.length->preSum (λi=>ns.getD i 0) j=(ns.take j).sum/\0<=preSum (λi=>ns.getD i 0) j/\preSum (λi=>ns.getD i 0) j<=(j:Int) * 1000000:=by
  intro j
  induction j with
  |zero=>intro _;simp[preSum]
  |succ j ih =>
   intro G;obtain⟨e,l1,O⟩:=ih (by omega)
   have hj':j<ns.length:=by omega
   have P:=J ns[j] (ja hj')
   have t:ns.getD j 0=ns[j]:=by rw[jf,zt hj'];rfl
   have Y:preSum (λi=>ns.getD i 0) (j+1)=preSum (λi=>ns.getD i 0) j+ns[j]:=by
    rw[<-t];rfl
   refine⟨?_,by omega,by omega⟩;rw[Y,e,List.take_succ_eq_append_getElem hj',List.sum_append];simp
 refine call_sum_walk (wpAny_pyIter_list p.isList ?_)
 refine⟨s.heap.objs.size,_,_,d.toArray.size,_,_,λi=>ns.getD i 0,rfl,Walks.list (A:=X.A.in1) (I.ok.hd U) s.heap.objs.size a y d.toArray,
  ⟨⟨_,zy _ rfl,rfl,rfl⟩,p.isList.at λo e=>zo _ e⟩,λb f=>?_,λi v E=>?_,λj G=>?_,λh' tk L T=>?_⟩
 ·have x:({s with heap:=s.heap.push {cls:=.type "list_iterator",data:=.fields #[.ref a,.int 0 0]}}:Shared).heap.objs.size=s.heap.objs.size+1:=Heap.size_push ..;rw[x]
  have z:b=s.heap.objs.size\/b=a:=by simpa using f
  have ha':a<s.heap.objs.size:=zl p.isList.choose_spec.1
  rcases z with z | z
  ·rw[z];exact jd _
  ·rw[z];exact jk ha'
 ·have hi:i<d.length:=by
   have z:=Array.getElem?_eq_some_iff.mp E;simpa using z.1
  have f:(ns.map V.int)[i]?=some (V.int (ns.getD i 0)):=by
   rw[zC,zt (by omega),jf,zt (by omega)];rfl
  obtain⟨u,F,m⟩:=C.get f
  have hv':d[i]?=some v:=by simpa using E
  rw[hv'] at F;cases F;exact m
 ·rw[zI] at G
  have hj':j<ns.length:=by omega
  have P:=J ns[j] (ja hj')
  have t:ns.getD j 0=ns[j]:=by rw[jf,zt hj'];rfl
  obtain⟨_,l1,O⟩:=pre (j+1) (by omega);unfold InLong;dsimp only;rw[t]
  constructor<;>constructor<;>omega
 ·obtain⟨e,_,_⟩:=pre ns.length (zc _);rw[List.take_length] at e;refine⟨.int ns.sum,H,I.kept λb o e=>T b o (λz=>?_) (zo _ e),⟨L,?_⟩,q⟩
  ·have z':b=s.heap.objs.size:=by simpa using z
   exact absurd (zl e) (by rw[z'];exact zV _)
  ·rw[zI,R,e]
structure Blt(mg:Str->Option Value):Prop where
 len_:mg "len" = none
 isinstance_:mg "isinstance" = none
 all_:mg "all" = none
 sum_:mg "sum" = none
 max_:mg "max" = none
 min_:mg "min" = none
 int_:mg "int" = none
 str_:mg "str" = none
 bool_:mg "bool" = none
 list_:mg "list" = none
 tuple_:mg "tuple" = none
 dict_:mg "dict" = none
 range_:mg "range" = none
 enumerate_:mg "enumerate" = none
 zip_:mg "zip" = none
def Em   {d:Pos}(h:∃u,X.mg x=some u/\RelV v u)(j:Gl X x:=by rfl)(hd:(x == ("__debug__":Str))=false:=by decide):PE X (.Name x d) (tC v):=by
 obtain⟨u,f,r⟩:=h;exact PK j f r hd
def cG{α:Type}(l:List α)(lo d:Option Int):List α:=(l.drop (HT.sIx l.length 0 lo)).take (HT.sIx l.length l.length d - HT.sIx l.length 0 lo)
def Ur(l:List Nat)(lo d:Option Int):Txt.slice (S l) lo d=S (cG l lo d):=by
 obtain⟨h1,h2,h3⟩:=DK lo d _
 have e:Builtin.Str.strSliceIndices lo d 1 (S l).length=(List.range (HT.sIx l.length l.length d - HT.sIx l.length 0 lo)).map (HT.sIx l.length 0 lo + ·):=by
  show sliceRange (sliceBounds lo d none l.length).1 (sliceBounds lo d none l.length).2.1 (sliceBounds lo d none l.length).2.2=_;rw[h1,h2,h3,sliceRange_one]
 unfold Txt.slice;rw[e,pick_run]
 split
 ·rename_i h
  have m :=by simpa [gK] using h
  have j:HT.sIx _ _ d<=l.length:=HT.sIx_le _ _ (zc _) d;have f:HT.sIx _ 0 lo<=l.length:=HT.sIx_le _ _ (Nat.zero_le _) lo
  have h0:HT.sIx l.length 0 lo=0:=by omega
  have h1:HT.sIx l.length l.length d=l.length:=by omega
  unfold cG;rw[h0,h1];simp
 ·rfl
def Us:V->Option Int->Option Int->Hp->VK->Prop:=λx lo d H Q=>∃l,x=.str (S l)/\l.length<=sizeLine/\Q (.str (S (cG l lo d))) H
def part_of   (p:IsPart v o):∃q:Option (Int×Tok),v=partValue q/\q.map (·.1)=o:=by
 cases p with
 |none=>exact⟨none,rfl,rfl⟩
 |int i t=>exact⟨some (i,t),rfl,rfl⟩
def Ut:SlR X Us:=by
 intro pins s σ H x v vl G lo f sl Q I m hs pl u h;obtain⟨l,rfl,y,q⟩:=h;obtain⟨t,rfl⟩:=m;obtain⟨L,rfl,E⟩:=part_of pl;obtain⟨J,rfl,C⟩:=part_of u;refine⟨"str",_,F.slot_str_getitem.lookup,typeIs_str _ _ _,?_⟩;refine wpAny_getItem_str_slice (st:=none) hs rfl ?_;unfold sliceMade slicePicked;rw[E,C];refine post_val_or_str ⟨?_,λd k=>?_⟩
 ·exact zN (Txt.slice_le _ _ _) (by exact y)
 ·have j:=Ur;unfold Txt.slice at j;show EP X _ σ Q (.str (if(1 == 1&&(Builtin.Str.strSliceIndices lo f 1 _).length == (S l).length)=true then S l else⟨((Builtin.Str.strSliceIndices lo f 1 _).filterMap _).toArray⟩) d) _;rw[j];exact⟨.str _,H,I.tok k,⟨d,rfl⟩,q⟩
namespace HT2
def getItem_tuple_whole         {lo:Option Int}  (d:IsTup s.heap t items)(hs:s.heap.IsSliceOf sl vl J .none)(pl:IsPart vl lo)(F:IsPart J I)
  (y:HT.sIx items.size 0 lo=0/\HT.sIx items.size items.size I=items.size) (h:Q (.ref t) s):wpAny (model prog w) A (getItem (.ref t) (.ref sl)) Q E s:=by
 obtain⟨os,j,u,G⟩:=id hs;have x:s.TypeIs (.ref sl) "slice":=⟨os,j,u⟩;unfold getItem
 try with_reducible refine zS ?_
 refine za (wpAny_sequenceKey d.typeIs (by decide) ?_)
 refine za (wpAny_callSpecial?_slot d.typeIs PyProof.Rows.slot_tuple_getitem
  (wpAny_call_entry PyProof.Rows.slot_tuple_getitem d.typeIs entry_tuple_getitem ?_))
 show wpAny _ _ (Builtin.Tuple.tupleItemsOf (.ref t) >>= _) _ _ s;refine za (tupleItemsOf_ d ?_);refine za (wpAny_typeOf x ?_);refine za (HT.sliceApplied_gen hs pl F ?_)
 have f:(((HT.sIx items.size 0 lo:Nat):Int) == 0&&(1:Int) == 1&&(HT.sIx items.size items.size I - HT.sIx items.size 0 lo) == items.size)=true:=by
  rw[y.1,y.2];simp
 show wpAny _ _ (if(((HT.sIx _ 0 lo:Nat):Int) == 0&&(1:Int) == 1&&(HT.sIx _ _ I - HT.sIx _ 0 lo) == items.size)=true then _ else _) _ _ s;rw[if_pos f]
 have m:∀{C:Around}{E'}{Q'},Q' true s->wpAny (model prog w) C (Builtin.Tuple.tupleIsExact (.ref t)) Q' E' s:=λ{C E' Q'} hq=>by
  exact za (wpAny_typeOf d.typeIs (zb hq))
 refine za (m ?_);exact za (zW (zb ⟨_,rfl,zb h⟩))
end HT2
def Uu(K:PySem.W.Frag):V->Option Int->Option Int->Hp->VK->Prop:=λx lo f H Q=>∃a d,x=.ref a/\SqT K H a d /\
 ((HT.sIx d.length 0 lo=0/\HT.sIx d.length d.length f=d.length)->Q (.ref a) H)/\(¬(HT.sIx d.length 0 lo=0/\HT.sIx d.length d.length f=d.length)->∀p,H p=none->Q (.ref p) (upd H p (.tup (lL d lo f))))
def Uv(K:PySem.W.Frag)(G:X.K=K:=by rfl):SlR X (Uu K):=by
 subst G;intro pins s σ H x v vl C lo y sl Q I m hs pl t h;obtain⟨a,d,rfl,hx,F,E⟩:=h
 by_cases f:HT.sIx d.length 0 lo=0/\HT.sIx d.length d.length y=d.length
 ·cases m;obtain⟨j,r,u,J⟩:=I.tuple hx
  have hlen:j.toArray.size=d.length:=by exact r.length.symm
  exact⟨"tuple",_,PyProof.Rows.slot_tuple_getitem.lookup,u.typeIs,HT2.getItem_tuple_whole u hs pl t (by rw[hlen];exact f) ⟨.ref a,H,I,rfl,F f⟩⟩
 ·exact Sw _ s σ H _ v vl C lo y sl Q I m hs pl t ⟨a,d,rfl,hx,f,E f⟩
inductive TyQ (K:PySem.W.Frag) (H:Hp):V->String->Prop where
 | non:TyQ K H .non "NoneType"
 | bl (x:Bool):TyQ K H (.bl x) "bool"
 | int (i:Int):TyQ K H (.int i) "int"
 | str (x:Str):TyQ K H (.str x) "str"
 | lst {a:Addr}{xs:List V} (e:SqL K H a xs):TyQ K H (.ref a) "list"
 | tup {a:Addr}{xs:List V} (e:SqT K H a xs):TyQ K H (.ref a) "tuple"
 | dK {a:Addr}{kvs:List (Key×V)} (e:H a=some (.dK kvs)):TyQ K H (.ref a) "dict"
def Uw(K:PySem.W.Frag):List V->Hp->VK->Prop:=λd H Q=>∃x n t b,d=[x,.ty n]/\TyQ K H x t/\PySem.W.kitOne K (.type t) (.type n)=some b/\Q (.bl b) H
def Ux(K:PySem.W.Frag)(F:X.K=K:=by rfl):cZ X (.builtin "isinstance") (Uw K):=by
 subst F;intro pins s σ H C G Q I r h;obtain⟨x,n,t,b,rfl,ty,e,q⟩:=h;obtain⟨u,c,rfl,d,E⟩:=vals2 r;cases(E)
 have fin:∀tk,EP X _ σ Q _ _:=λtk=>⟨.bl b,H,I.tok tk,rfl,q⟩
 cases ty with
 |non=>exact pM I d .non e fin
 |bl y=>exact pM I d (.bl y) e fin
 |int i=>exact pM I d (.int i) e fin
 |str y=>exact pM I d (.str y) e fin
 | @lst a C ea =>
  cases(d);obtain⟨m,_,p,_⟩:=I.list ea;obtain⟨o,f,j,_⟩:=p.isList;exact PySem.W.kia_one PySem.W.kitx_list I.kIn ⟨o,f,j⟩ e (λz=>nomatch z) fin
 | @tup a C ea =>
  cases(d);obtain⟨m,_,p,_⟩:=I.tuple ea;obtain⟨o,f,j,_⟩:=p;exact PySem.W.kia_one PySem.W.kitx_tuple I.kIn ⟨o,f,j⟩ e (λz=>nomatch z) fin
 | @dK a kvs ea=>exact pM I d (.dK ea) e fin
def Uy(K:PySem.W.Frag)(n:String):PySem.W.kitOne K (.type n) (.type n)=some true:=by
 unfold PySem.W.kitOne;rw[if_pos (beq_self_eq_true _)]
theorem sO:∀{ds:List PyData},(∀d∈ds,d.canLay0=true)->PyData.canLayAll0 ds=true
 | [],_=>rfl
 |d::ds,h=>by rw[PyData.canLayAll0,h d zd,sO λx hx=>h x (zm _ hx)];rfl
theorem sS :∀{ds:List PyData},(∀d∈ds,d.depth<=n)->PyData.depthAll ds<=n
 | [],_=>by exact Nat.zero_le _
 |d::ds,h=>by
  exact Nat.max_le.mpr ⟨h d zd,sS λx hx=>h x (zm _ hx)⟩
def Uz  (f:n<60)  (h:∀d∈ds,d.canLay0=true/\d.depth<=n):okD (.list ds)=true:=by
 unfold okD;rw[zD];refine⟨?_,zv ?_⟩
 ·exact sO λd hd=>(h d hd).1
 ·show PyData.depthAll ds+1<=60
  have:=sS λd hd=>(h d hd).2
  omega
theorem En:∀{ls:List (List Nat)}{us:List Value},aF (ls.map λl=>V.str (S l)) us->StrsAre us (ls.map S)
 | [],us,r=>by rw[zX] at r;cases r;exact .nil
 |l::ls,us,r=>by
  rw[zg] at r
  cases r with
  |cons r1 r2 =>
   obtain⟨t,e⟩:=r1;subst e;exact .cons _ t (En r2)
theorem Eo:∀(ls:List (List Nat)) (a:Array Nat),(ls.map S).foldl (λacc p=>acc++(S []).cps++p.cps) a=a++ls.flatten.toArray
 | [],a=>by simp
 |l::ls,a=>by
  rw[zg,List.foldl_cons,Eo ls];simp[S]
def UG(ls:List (List Nat)):Txt.join (S []) (ls.map S)=S ls.flatten:=by
 show Builtin.Str.glued (S []) (ls.map S)=_;unfold Builtin.Str.glued
 cases ls with
 |nil=>rfl
 |cons l ls =>
  show Str.mk ((ls.map S).foldl (λd p=>d++(S []).cps++p.cps) (S l).cps)=_;rw[Eo];simp[S]
def rJoin(K:PySem.W.Frag):V->List V->Hp->VK->Prop:=λx d H Q=>∃(p:Addr) (ls:List (List Nat)),x=.str (S [])/\d=[.ref p]/\SqL K H p (ls.map λl=>V.str (S l))/\(ls.map List.length).sum<=1000000/\Q (.str (S ls.flatten)) H
def UJ(K:PySem.W.Frag)(E:X.K=K:=by rfl):MtR X "str.join" (rJoin K):=by
 subst E;intro pins s σ H x G v J Q I f y h;obtain⟨p,ls,rfl,rfl,C,L,q⟩:=h;obtain⟨t,rfl⟩:=f;obtain⟨u,rfl,m⟩:=vals1 y;cases m;obtain⟨F,j,pl,_⟩:=I.list C
 refine join_list pl.isList (ys:=ls.map S) (by simpa using En j) ?_ λd k=>⟨.str (S ls.flatten),H,I.tok k,⟨d,?_⟩,q⟩
 ·have e:((ls.map S).map (·.length)).sum=(ls.map List.length).sum:=by
   rw[zO];exact congrArg List.sum (zY λl _=>gK l)
  rw[e,gK];simp only[je,Nat.mul_zero];omega
 ·rw[UG]
def UL:V->List V->Hp->VK->Prop:=λx d H Q=>∃l m,x=.str (S l)/\d=[.str (S m)]/\Q (.bl (decide (l.take m.length=m))) H
def UT(l m:List Nat):Txt.startswith (S l) (S m)=decide (l.take m.length=m):=by
 unfold Txt.startswith;rw[StrLaws.subAt_eq,lN,lN,gK,gK,List.drop_zero,Bool.eq_iff_iff,zD,decide_eq_true_eq,decide_eq_true_eq,beq_iff_eq];constructor
 ·exact λh=>h.2
 ·intro h;refine⟨?_,h⟩
  have:=congrArg List.length h
  rw[List.length_take] at this;omega
def UV:R2:=λx y H Q=>∃(l:List Nat) (n:Int),x=.str (S l)/\y=.int n/\-1000000<n/\n<1000000/\l.length * n.toNat<=16777216/\Q (.str (S (List.replicate n.toNat l).flatten)) H
theorem Ep(l:List Nat):∀(n:Nat) (a:Array Nat),(List.replicate n (S l).cps).foldl (· ++ ·) a=a++(List.replicate n l).flatten.toArray
 | 0,a=>by simp
 |n+1,a=>by
  rw[List.replicate_succ,List.foldl_cons,Ep l n,List.replicate_succ,List.flatten_cons];simp[S]
def UW:OpR X (binaryOp .Mult) UV:=by
 intro pins s σ H x y v u Q I j f h;obtain⟨l,n,rfl,rfl,h1,h2,h3,q⟩:=h;obtain⟨t,rfl⟩:=j;obtain⟨G,rfl⟩:=f;have hs:sizeLine=16777216:=sizeLine_eq
 by_cases C:n<1
 ·have F:n.toNat=0:=by omega
  rw[F] at q;exact P.mul_str_none C (by omega) ⟨.str (S []),H,I.tok _,⟨s.toks,rfl⟩,q⟩
 refine P.mul_str ?_ (λ_ _=>?_) (λ_ _=>?_) ?_
 ·rw[zq (by omega),zq (by omega)];rfl
 ·rw[gK];intro m
  have h4:(l.length:Int) * n<=16777216:=by
   have:((l.length * n.toNat:Nat):Int)<=16777216:=by omega
   rw[Int.natCast_mul,Int.toNat_of_nonneg (by omega)] at this;exact this
  have E:(2 ^ 63 - 1) / n<(l.length:Int):=m;have J:=(Int.ediv_lt_iff_lt_mul (show 0<n by omega)).mp E;omega
 ·rw[gK];unfold Builtin.Str.tooLong;exact zq (by omega)
 ·rw[if_neg (by omega)]
  by_cases d:(n == 1 || (S l).length == 0)=true
  ·rw[if_pos d]
   have e:(List.replicate n.toNat l).flatten=l:=by
    rw[Bool.or_eq_true,beq_iff_eq,beq_iff_eq,gK] at d
    rcases d with z | z
    ·rw[z];show(List.replicate 1 l).flatten=l;simp
    ·have z':=List.eq_nil_of_length_eq_zero z;subst z';rw[List.flatten_eq_nil_iff];intro x hx;exact(List.mem_replicate.mp hx).2
   rw[e] at q;exact⟨.str (S l),H,I,⟨t,rfl⟩,q⟩
  ·rw[if_neg d,Ep];refine⟨?_,.str (S (List.replicate n.toNat l).flatten),H,I.tok _,⟨s.toks,?_⟩,q⟩
   ·show(#[]++(List.replicate n.toNat l).flatten.toArray).size<=sizeLine;simp only[Array.size_append,zI,List.length_flatten,List.map_replicate,List.sum_replicate_nat];simp;rw[Nat.mul_comm];omega
   ·congr 1;simp[S]
def U0:MtR X "str.startswith" UL:=by
 intro pins s σ H x y v C Q I d j h;obtain⟨l,m,rfl,rfl,q⟩:=h;obtain⟨t,rfl⟩:=d;obtain⟨u,rfl,f⟩:=vals1 j;obtain⟨E,rfl⟩:=f;exact SC.startswith ⟨.bl _,H,I,rfl,by rw[UT];exact q⟩
inductive D where
 | non | bl (b:Bool) | int (i:Int) | str (l:List Nat) | lst (ds:List D) | tup (ds:List D) | dic (ks vs:List D) | ob (n:Nat)
inductive Ob where
 | ins (c:Str) (fs:List (Str×D))
 | ml (ds:List D)
 | dt (kvs:List (List Key×D))
 | df (kvs:List (List Key×D))
 | dk (kvs:List (Key×D))
 | kf (kvs:List (Key×D))
 | xc (c:Str) (fs:List (Str×D))
 | gone
 | dn (kvs:List (NK×D))
 | nf (kvs:List (NK×D))
abbrev au:=List Ob
abbrev aK:=List (Option D)
structure Xc where
 cls:Str
 fs:List (Str×D)
inductive Res (α:Type) where
 | ok (a:α) (O:au) | ex (x:Xc) (O:au) | no
inductive Fl where
 | nx (ρ:aK) (O:au) | rt (d:D) (O:au) | bk (ρ:aK) (O:au) | ct (ρ:aK) (O:au) | ex (x:Xc) (O:au) | no
abbrev M(α:Type):=aK->au->Res α
abbrev MS:=aK->au->Fl
noncomputable def Res.bind  (r:Res α)(f:α->au->Res β):Res β:=match r with
 | .ok a O=>f a O
 | .ex x O=>.ex x O
 | .no=>.no
def Res.bind_ok  {r:Res α}{f:α->au->Res β}{b:β}  (h:r.bind f=.ok b O'):∃a O,r=.ok a O/\f a O=.ok b O':=by
 cases r with
 |ok a O=>exact⟨a,O,rfl,h⟩
 |ex x O=>cases h
 |no=>cases h
def wO:Expr->Bool
 | .Starred _ _=>false
 | _=>true
def bM    (h:wO e=true):starEach (e::es) env=(false,eval e env)::starEach es env:=by
 cases e<;>first | rfl | cases h
theorem cB  :∀{es:List Expr},es.all wO=true->(backTo pos (starEach es env)).any (·.1)=false
 | [],_=>by simp[starEach,backTo]
 |e::es,h=>by
  rw[List.all_cons,zD] at h;rw[bM h.1];show(false || (backTo _ _).any _)=false;rw[cB h.2];rfl
def nH   (h:wO e=true):starEach [e] env=[(false,eval e env)]:=by rw[bM h];simp[starEach]
abbrev Frag:=PySem.W.Frag
def sU:Key->D
 | .inl i=>.int i
 | .inr x=>.str x.cps.toList
def RdK(K:Frag)(H:Hp)(a:Addr)(xs:List V):Prop:=Rd H a (.lst xs)\/∃(d:List Value) (n:Nat),K.lookup a=some {cls:=.type "list",data:=.seq d.toArray n}/\d.length<=sizeLine/\aF xs d
def RdK.sq{K:Frag}    (h:RdK K H a xs):SqL K H a xs:=by
 rcases h with h | ⟨d,n,h1,h2,h3⟩
 ·exact .inl h
 ·exact .inr ⟨_,d.toArray,n,h1,rfl,rfl,rfl,by simpa ,by simpa ⟩
def RdK.ok   {σ:St}     (h:RdK X.K H a xs)(I:Inv X f σ H s):xs.length<=sizeLine/\∃(d:List Value) (n:Nat),aF xs d/\s.heap.get? a=some {cls:=.type "list",data:=.seq d.toArray n}:=by
 rcases h with h | ⟨d,n,h1,h2,h3⟩
 ·exact h.ok I.hok
 ·exact⟨by rw[h3.length];exact h2,d,n,h3,I.kIn a _ h1⟩
def TqT(K:Frag)(F:Hp)(a:Addr)(xs:List V):Prop :=
 F a=some (.tup xs)\/∃(o:Obj) (d:Array Value) (n:Nat),K.lookup a=some o/\o.cls=.type "tuple"/\o.data=.seq d n/\d.size<=sizeLine/\aF xs d.toList
def TqT.sq{K:Frag}    (h:TqT K F a xs):SqT K F a xs:=h.imp .inl id
mutual
def Rp(K:Frag)(F:Hp)(j:List Addr):V->D->Prop
 |v,.non=>v=.non
 |v,.bl b=>v=.bl b
 |v,.int i=>v=.int i
 |v,.str l=>v=.str (S l)
 |v,.lst ds=>∃a f,v=.ref a/\RdK K F a f/\Rps K F j f ds
 |v,.tup ds=>∃a f,v=.ref a/\TqT K F a f/\Rps K F j f ds
 |v,.dic ks vs=>∃(a:Addr) (d:List (Key×V)),v=.ref a/\F a=some (.dK d)/\ks=d.map (λp=>sU p.1)/\Rps K F j (d.map (·.2)) vs
 |v,.ob n=>∃a,v=.ref a/\j[n]?=some a
def Rps(K:Frag)(F:Hp)(f:List Addr):List V->List D->Prop
 |xs,[]=>xs=[]
 |xs,d::ds=>∃x r,xs=x::r/\Rp K F f x d/\Rps K F f r ds
end
section
variable {K:Frag}{F F':Hp}{as as':List Addr}
def Rd.mono    (e:Same H d)(h:Rd H a u):Rd d a u:=by
 rcases h with h | ⟨o,h⟩
 ·exact .inl (e _ _ h)
 ·exact .inr ⟨o,e _ _ h⟩
def RdK.mono{K:Frag}    (e:Same H d)(h:RdK K H a xs):RdK K d a xs:=h.imp (λz=>z.mono e) id
mutual
theorem Rp.mono(e:Same F F')(f:∀(n:Nat) (a:Addr),as[n]?=some a->as'[n]?=some a):∀(d:D) {v:V},Rp K F as v d->Rp K F' as' v d
 | .non,v,h=>by rw[Rp] at h ⊢;exact h
 | .bl b,v,h=>by rw[Rp] at h ⊢;exact h
 | .int i,v,h=>by rw[Rp] at h ⊢;exact h
 | .str x,v,h=>by rw[Rp] at h ⊢;exact h
 | .lst ds,v,h=>by
  rw[Rp] at h ⊢;obtain⟨a,j,h1,h2,h3⟩:=h;exact⟨a,j,h1,h2.mono e,Rps.mono e f ds h3⟩
 | .tup ds,v,h=>by
  rw[Rp] at h ⊢;obtain⟨a,j,h1,h2,h3⟩:=h;exact⟨a,j,h1,h2.imp (e _ _) id,Rps.mono e f ds h3⟩
 | .dic ks vs,v,h=>by
  rw[Rp] at h ⊢;obtain⟨a,m,h1,h2,h3,h4⟩:=h;exact⟨a,m,h1,e _ _ h2,h3,Rps.mono e f vs h4⟩
 | .ob n,v,h=>by
  rw[Rp] at h ⊢;obtain⟨a,h1,h2⟩:=h;exact⟨a,h1,f _ _ h2⟩
theorem Rps.mono(e:Same F F')(f:∀(n:Nat) (a:Addr),as[n]?=some a->as'[n]?=some a):∀(ds:List D) {xs:List V},Rps K F as xs ds->Rps K F' as' xs ds
 | [],xs,h=>by rw[Rps] at h ⊢;exact h
 |d::ds,xs,h=>by
  rw[Rps] at h ⊢;obtain⟨x,r,h1,h2,h3⟩:=h;exact⟨x,r,h1,Rp.mono e f d h2,Rps.mono e f ds h3⟩
end
def Rp.non{K:Frag}:Rp K F as .non .non:=by rw[Rp]
def Rp.bl{K:Frag} :Rp K F as (.bl b) (.bl b):=by rw[Rp]
def Rp.int{K:Frag} :Rp K F as (.int i) (.int i):=by rw[Rp]
def Rp.str{K:Frag} :Rp K F as (.str (S l)) (.str l):=by rw[Rp]
def Rp.unN{K:Frag}  (h:Rp K F as v .non):v=.non:=by rw[Rp] at h;exact h
def Rp.unB{K:Frag}   (h:Rp K F as v (.bl b)):v=.bl b:=by rw[Rp] at h;exact h
def Rp.unI{K:Frag}   (h:Rp K F as v (.int i)):v=.int i:=by exact h
def Rp.unS{K:Frag}   (h:Rp K F as v (.str l)):v=.str (S l):=by rw[Rp] at h;exact h
def Rp.unL{K:Frag}   (h:Rp K F as v (.lst ds)):∃a xs,v=.ref a/\RdK K F a xs/\Rps K F as xs ds:=by rw[Rp] at h;exact h
def Rp.unT'{K:Frag}   (h:Rp K F as v (.tup ds)):∃a xs,v=.ref a/\TqT K F a xs/\Rps K F as xs ds:=by rw[Rp] at h;exact h
def Rp.unT{K:Frag}   (h:Rp K F as v (.tup ds)):∃a xs,v=.ref a/\SqT K F a xs/\Rps K F as xs ds:=let ⟨a,xs,e,h1,h2⟩:=h.unT';⟨a,xs,e,h1.sq,h2⟩
def Rp.unO{K:Frag}   (h:Rp K F as v (.ob n)):∃a,v=.ref a/\as[n]?=some a:=by rw[Rp] at h;exact h
def Rp.unD{K:Frag}   (h:Rp K F as v (.dic ks vs)):∃(a:Addr) (d:List (Key×V)),v=.ref a/\F a=some (.dK d)/\ks=d.map (λp=>sU p.1)/\Rps K F as (d.map (·.2)) vs:=by rw[Rp] at h;exact h
def Rp.mkL{K:Frag}    (h:RdK K F a xs)(hs:Rps K F as xs ds):Rp K F as (.ref a) (.lst ds):=by rw[Rp];exact⟨a,xs,rfl,h,hs⟩
def Rp.mkT{K:Frag}    (h:TqT K F a xs)(hs:Rps K F as xs ds):Rp K F as (.ref a) (.tup ds):=by rw[Rp];exact⟨a,xs,rfl,h,hs⟩
def Rp.mkO{K:Frag}   (h:as[n]?=some a):Rp K F as (.ref a) (.ob n):=by exact⟨a,rfl,h⟩
def Rps.nil{K:Frag}:Rps K F as [] []:=by rw[Rps]
def Rps.cons{K:Frag}{F:Hp}{as:List Addr}{x:V}{xs:List V}{d:D}{ds:List D}(h:Rp K F as x d)(hs:Rps K F as xs ds):Rps K F as (x::xs) (d::ds):=by
 rw[Rps];exact⟨x,xs,rfl,h,hs⟩
def Rps.un{K:Frag}    (h:Rps K F as xs (d::ds)):∃x r,xs=x::r/\Rp K F as x d/\Rps K F as r ds:=by exact h
def Rps.un0{K:Frag}  (h:Rps K F as xs []):xs=[]:=by rw[Rps] at h;exact h
theorem Rps.length{K:Frag}:∀{ds:List D}{xs:List V},Rps K F as xs ds->xs.length=ds.length
 | [],xs,h=>by rw[h.un0];rfl
 |d::ds,xs,h=>by
  obtain⟨x,r,rfl,_,h3⟩:=h.un;simp[Rps.length h3]
theorem Rps.get{K:Frag}{F:Hp}{as:List Addr}:∀{ds:List D}{xs:List V}{i:Nat}{x:V},Rps K F as xs ds->xs[i]?=some x->∃d,ds[i]?=some d/\Rp K F as x d
 | [],xs,i,x,h,e=>by rw[h.un0] at e;simp at e
 |d::ds,xs,i,x,h,e=>by
  obtain⟨y,r,rfl,h2,h3⟩:=h.un
  cases i with
  |zero=>simp at e;subst e;exact⟨d,rfl,h2⟩
  |succ i =>
   obtain⟨j,f,q⟩:=Rps.get (i:=i) (x:=x) h3 (by simpa using e);exact⟨j,by simpa using f,q⟩
def Rps.get'{K:Frag}{F:Hp}{as:List Addr}:∀{ds:List D}{xs:List V}{i:Nat}{d:D},Rps K F as xs ds->ds[i]?=some d->∃x,xs[i]?=some x/\Rp K F as x d:=by
 intro ds xs i d h e;have m:=h.length
 have f:i<xs.length:=by rw[m];exact(zu.mp e).1
 obtain⟨t,j,q⟩:=h.get (zt f);rw[e] at j;cases j;exact⟨_,zt f,q⟩
theorem Rps.append{K:Frag}   (d:Rps K F as ys es):∀{ds:List D}{xs:List V},Rps K F as xs ds->Rps K F as (xs++ys) (ds++es)
 | [],xs,h=>by rw[h.un0];exact d
 |e::ds,xs,h=>by
  obtain⟨y,r,rfl,h2,h3⟩:=h.un;exact Rps.cons h2 (Rps.append d h3)
def Rps.snoc{K:Frag}     (h:Rps K F as xs ds)(hx:Rp K F as x d):Rps K F as (xs++[x]) (ds++[d]):=Rps.append (Rps.cons hx Rps.nil) h
theorem Rps.take{K:Frag}:∀{ds:List D}{xs:List V} (n:Nat),Rps K F as xs ds->Rps K F as (xs.take n) (ds.take n)
 | _,_,0,_=>by simpa using Rps.nil
 | [],xs,n+1,h=>by rw[h.un0];simpa using Rps.nil
 |d::ds,xs,n+1,h=>by
  obtain⟨y,r,rfl,h2,h3⟩:=h.un;exact Rps.cons h2 (Rps.take n h3)
theorem Rps.drop{K:Frag}:∀{ds:List D}{xs:List V} (n:Nat),Rps K F as xs ds->Rps K F as (xs.drop n) (ds.drop n)
 | _,_,0,h=>by simpa using h
 | [],xs,n+1,h=>by rw[h.un0];simpa using Rps.nil
 |d::ds,xs,n+1,h=>by
  obtain⟨y,r,rfl,h2,h3⟩:=h.un;exact Rps.drop n h3
theorem Rps.set{K:Frag}{F:Hp}{as:List Addr}:∀{ds:List D}{xs:List V}{x:V}{d:D} (n:Nat),Rps K F as xs ds->Rp K F as x d->Rps K F as (xs.set n x) (ds.set n d)
 | [],xs,x,d,n,h,_=>by rw[h.un0];simpa using Rps.nil
 |e::ds,xs,x,d,0,h,hx=>by
  obtain⟨y,r,rfl,h2,h3⟩:=h.un;exact Rps.cons hx h3
 |e::ds,xs,x,d,n+1,h,hx=>by
  obtain⟨y,r,rfl,h2,h3⟩:=h.un;exact Rps.cons h2 (Rps.set n h3 hx)
theorem Rps.rep{K:Frag}   (h:Rps K F as xs ds):∀n:Nat,Rps K F as (List.replicate n xs).flatten (List.replicate n ds).flatten
 | 0=>by simpa using Rps.nil
 |n+1=>by
  exact Rps.append (Rps.rep h n) h
end
def isD:HO->Bool
 | .ins _ _ _=>false
 | .own _=>false
 | .xd _=>false
 | _=>true
def isL:HO->Bool
 | .lst _=>true
 | .dK _=>true
 | _=>false
def Er  (h:isL o=true):isD o=true:=by
 cases o<;>first | rfl | cases h
structure Gr(H F:Hp)(as:List Addr)(H' F':Hp)(as':List Addr):Prop where
 fz:∀a o,H a=some o->a∉as->isL o=true->F' a=F a
 ff:Same F F'
 nw:∃new,as'=as++new/\∀a∈new,H a=none
 fr:∀a o,H a=some o->a∉as->isD o=true->H' a=some o
 dm:∀a,H' a=none->H a=none
 kz:∀a o u,H a=some (.frz o u)->H' a=some (.frz o u)
structure Pt where
 p:Addr->Prop
 ss:List (Nat×V×D)
instance:CoeFun Pt (λ_=>Addr->Prop):=⟨Pt.p⟩
def Pt.all(H:Hp):Pt:=⟨λa=>H a≠none,[]⟩
structure GrS(P:Pt)(H F:Hp)(as:List Addr)(H' F':Hp)(as':List Addr):Prop where
 fz:∀a o,P a->H a=some o->a∉as->isL o=true->F' a=F a
 ff:Same F F'
 nw:∃new,as'=as++new/\∀a∈new,H a=none
 fr:∀a o,P a->H a=some o->a∉as->isD o=true->H' a=some o
 dm:∀a,H' a=none->H a=none
 kz:∀a o u,H a=some (.frz o u)->H' a=some (.frz o u)
def Gr.refl:Gr H F d H F d:=⟨λ_ _ _ _ _=>rfl,Same.refl F,⟨[],by simp,λ_ h=>nomatch h⟩,λ_ _ h _ _=>h,λ_ h=>h,λ_ _ _ h=>h⟩
def Gr.trans(a:Gr H F E I L C)(b:Gr I L C G J y):Gr H F E G J y:=by
 obtain⟨t,j,h1⟩:=a.nw;obtain⟨m,x,h2⟩:=b.nw;refine⟨λc o f d hd=>?_,a.ff.trans b.ff,⟨t++m,by rw[x,j,zB],λc f=>?_⟩,λc o e d hd=>?_,λc h=>a.dm c (b.dm c h),λc o u h=>b.kz c o u (a.kz c o u h)⟩
 ·have q:=a.fr c o f d (Er hd);refine(b.fz c o q ?_ hd).trans (a.fz c o f d hd);rw[j];intro z
  rcases zx.mp z with z | z
  ·exact d z
  ·rw[h1 c z] at f;cases f
 ·rcases zx.mp f with z | z
  ·exact h1 c z
  ·exact a.dm c (h2 c z)
 ·have q:=a.fr c o e d hd;refine b.fr c o q ?_ hd;rw[j];intro z
  rcases zx.mp z with z | z
  ·exact d z
  ·rw[h1 c z] at e;cases e
def Gr.toS(a:Gr H F j m t f):GrS P H F j m t f:=⟨λc o _=>a.fz c o,a.ff,a.nw,λc o _ e d hd=>a.fr c o e d hd,a.dm,a.kz⟩
def GrS.refl:GrS P H F d H F d:=Gr.refl.toS
def GrS.trans(a:GrS P H F E I L C)(b:GrS P I L C G J y):GrS P H F E G J y:=by
 obtain⟨t,j,h1⟩:=a.nw;obtain⟨m,x,h2⟩:=b.nw;refine⟨λc o p f d hd=>?_,a.ff.trans b.ff,⟨t++m,by rw[x,j,zB],λc f=>?_⟩,λc o p e d hd=>?_,λc h=>a.dm c (b.dm c h),λc o u h=>b.kz c o u (a.kz c o u h)⟩
 ·have q:=a.fr c o p f d (Er hd);refine(b.fz c o p q ?_ hd).trans (a.fz c o p f d hd);rw[j];intro z
  rcases zx.mp z with z | z
  ·exact d z
  ·rw[h1 c z] at f;cases f
 ·rcases zx.mp f with z | z
  ·exact h1 c z
  ·exact a.dm c (h2 c z)
 ·have q:=a.fr c o p e d hd;refine b.fr c o p q ?_ hd;rw[j];intro z
  rcases zx.mp z with z | z
  ·exact d z
  ·rw[h1 c z] at e;cases e
def GrS.gr(a:GrS (Pt.all H) H F f j m d):Gr H F f j m d:=⟨λc o e=>a.fz c o (show H c≠none by rw[e];exact λz=>nomatch z) e,a.ff,a.nw,λc o e=>a.fr c o (show H c≠none by rw[e];exact λz=>nomatch z) e,a.dm,a.kz⟩
def Gr.at_(a:Gr H F f j m d):∀(n:Nat) (c:Addr),f[n]?=some c->d[n]?=some c:=λn c h=>by
 obtain⟨new,e,_⟩:=a.nw;rw[e,zF (zu.mp h).1];exact h
def GrS.at_(a:GrS P H F f j m d):∀(n:Nat) (c:Addr),f[n]?=some c->d[n]?=some c:=λn c h=>by
 obtain⟨new,e,_⟩:=a.nw;rw[e,zF (zu.mp h).1];exact h
def Gr.out(a:Gr H F j m t f)  (h:c∉j)(e:H c≠none):c∉f:=by
 obtain⟨new,d,h1⟩:=a.nw;rw[d];intro z
 rcases zx.mp z with z | z
 ·exact h z
 ·exact e (h1 c z)
def Rp.gr{K:Frag}   (h:Rp K F j v d)(a:Gr H F j t m f):Rp K m f v d:=Rp.mono a.ff a.at_ d h
def Rps.gr{K:Frag}   (h:Rps K F j v d)(a:Gr H F j t m f):Rps K m f v d:=Rps.mono a.ff a.at_ d h
def Rp.grS{K:Frag}   (h:Rp K F j v d)(a:GrS P H F j t m f):Rp K m f v d:=Rp.mono a.ff a.at_ d h
structure FsR(K:Frag)(F:Hp)(as:List Addr)(gs:List (Str×V))(fs:List (Str×D)):Prop where
 nm:gs.map (·.1)=fs.map (·.1)
 vl:Rps K F as (gs.map (·.2)) (fs.map (·.2))
def XF(K:Frag)(F:Hp)(m:List Addr)(d:Option Addr)(fs:List (Str×D)):Prop:=fs=[]\/∃f j gs,d=some f/\F f=some (.frz j (.xd gs))/\FsR K F m gs fs
def XF.mono{K:Frag}     (h:XF K F u m fs)(e:Same F x)(f:∀(n:Nat) (a:Addr),u[n]?=some a->t[n]?=some a):XF K x t m fs:=by
 rcases h with h | ⟨j,d,gs,h1,h2,h3,h4⟩
 ·exact .inl h
 ·exact .inr ⟨j,d,gs,h1,e _ _ h2,h3,Rps.mono e f _ h4⟩
def ObR(K:Frag)(mg:Str->Option Value)(H F:Hp)(f:List Addr)(a:Addr):Ob->Prop
 | .ins c fs=>∃C t gs,mg c=some (.ref C)/\H a=some (.ins C t gs)/\FsR K F f gs fs
 | .ml ds=>∃d,H a=some (.lst d)/\Rps K F f d ds
 | .dt kvs=>∃d:List (List Key×V),H a=some (.dT d)/\d.map (·.1)=kvs.map (·.1)/\Rps K F f (d.map (·.2)) (kvs.map (·.2))
 | .df kvs=>∃(o:Obj) (d:List (List Key×V)),H a=some (.frz o (.dT d))/\d.map (·.1)=kvs.map (·.1)/\Rps K F f (d.map (·.2)) (kvs.map (·.2))
 | .dk kvs=>∃d:List (Key×V),H a=some (.dK d)/\d.map (·.1)=kvs.map (·.1)/\Rps K F f (d.map (·.2)) (kvs.map (·.2))
 | .kf kvs=>∃(o:Obj) (d:List (Key×V)),H a=some (.frz o (.dK d))/\d.map (·.1)=kvs.map (·.1)/\Rps K F f (d.map (·.2)) (kvs.map (·.2))
 | .xc c fs=>∃(C:Addr) (j:Obj) (u:HO),mg c=some (.ref C)/\H a=some (.frz j u)/\j.cls=.ref C/\(∃m,j.data=.fields m)/\XF K F f j.dict fs
 | .gone=>∃φ,H a=some (.ext φ)
 | .dn kvs=>∃d:List (NK×V),H a=some (.dN K d)/\d.map (·.1)=kvs.map (·.1)/\Rps K F f (d.map (·.2)) (kvs.map (·.2))
 | .nf kvs=>∃(o:Obj) (d:List (NK×V)),H a=some (.frz o (.dN K d))/\d.map (·.1)=kvs.map (·.1)/\Rps K F f (d.map (·.2)) (kvs.map (·.2))
structure RlO(K:Frag)(mg:Str->Option Value)(O:au)(H F:Hp)(as:List Addr):Prop where
 fh:Same F H
 fd:∀a o,F a=some o->isD o=true
 nd:as.Nodup
 len:as.length=O.length
 fa:∀a∈as,F a=none
 ob:∀(n:Nat) (a:Addr) (o:Ob),as[n]?=some a->O[n]?=some o->ObR K mg H F as a o
inductive Md where
 | v | s | o
 deriving DecidableEq
def iu:D->Bool
 | .lst _=>false
 | _=>true
def gM(P:Pt)(K:Frag)(H F:Hp)(f:List Addr):Md->V->D->Prop
 | .v,v,d=>Rp K F f v d
 | .s,v,d=>Rp K F f v d\/∃a j m,v=.ref a/\d=.lst m/\H a=some (.lst j)/\a∉f/\P a/\Rps K F f j m
 | .o,v,d=>(iu d=true/\Rp K F f v d)\/∃a j m,v=.ref a/\d=.lst m/\H a=some (.lst j)/\F a=none/\a∉f/\¬P a/\Rps K F f j m
structure SlO(K:Frag)(md:List Md)(P:Pt)(ρ:aK)(σ:St)(H F:Hp)(as:List Addr):Prop where
 len:σ.length=md.length
 len':ρ.length=md.length
 pd:∀a,P a->H a≠none
 sl:∀(i:Nat) (m:Md) (d:D),md[i]?=some m->ρ[i]?=some (some d)->∃v,σ[i]?=some (some v)/\gM P K H F as m v d
 inj:∀(i j:Nat) (a:Addr) (ds es:List D),md[i]?=some .o->md[j]?=some .o->ρ[i]?=some (some (.lst ds))->ρ[j]?=some (some (.lst es))->σ[i]?=some (some (.ref a))->σ[j]?=some (some (.ref a))->i=j
 pin:∀x∈P.ss,md[x.1]?=some .s/\ρ[x.1]?=some (some x.2.2)/\σ[x.1]?=some (some x.2.1)
def gM.step{K:Frag}    (h:gM P K H F as m v d)(g:Gr H F as H' F' as'):gM P K H' F' as' m v d:=by
 cases m with
 |v=>exact Rp.gr (show Rp K F as v d from h) g
 |s =>
  rcases h with h | ⟨a,t,E,C,y,j,f,x,u⟩
  ·exact .inl (h.gr g)
  ·exact .inr ⟨a,t,E,C,y,g.fr _ _ j f rfl,g.out f (by rw[j];exact λz=>nomatch z),x,u.gr g⟩
 |o =>
  rcases h with⟨h1,h⟩ | ⟨a,t,E,C,y,j,I,f,x,u⟩
  ·exact .inl ⟨h1,h.gr g⟩
  ·have G:H a≠none:=by rw[j];exact λz=>nomatch z
   exact .inr ⟨a,t,E,C,y,g.fr _ _ j f rfl,by rw[g.fz a _ j f rfl];exact I,g.out f G,x,u.gr g⟩
def SlO.step{K:Frag}(h:SlO K md P ρ σ H F u)(g:Gr H F u x y t):SlO K md P ρ σ x y t :=
 ⟨h.len,h.len',λa p z=>h.pd a p (g.dm a z),λi m d j f=>let ⟨v,q,r⟩:=h.sl i m d j f;⟨v,q,r.step g⟩,h.inj,h.pin⟩
def Sv(K:Frag)(H F:Hp)(f:List Addr)(v:V)(d:D):Prop :=
 Rp K F f v d\/∃a j m,v=.ref a/\d=.lst m/\H a=some (.lst j)/\a∉f/\Rps K F f j m
def Lk(K:Frag)(H F:Hp)(m:List Addr)(v:V)(d:D):Prop :=
 Rp K F m v d\/∃a f j,v=.ref a/\d=.lst j/\H a=some (.lst f)/\Rps K F m f j
def Ow(K:Frag)(N:Addr->Prop)(H F:Hp)(f:List Addr)(v:V)(d:D):Prop :=
 (iu d=true/\Rp K F f v d)\/∃a j m,v=.ref a/\d=.lst m/\H a=some (.lst j)/\F a=none/\a∉f/\N a/\Rps K F f j m
noncomputable def aV(O:au)(d:D):D:=match d with
 | .ob n=>match O[n]? with
  |some (.ml ds)=>.lst ds
  | _=>.ob n
 |d=>d
def Sv.gr{K:Frag}(h:Sv K H F E v d)(g:Gr H F E G I C):Sv K G I C v d:=by
 rcases h with h | ⟨a,m,y,x,u,j,f,t⟩
 ·exact .inl (h.gr g)
 ·exact .inr ⟨a,m,y,x,u,g.fr _ _ j f rfl,g.out f (by rw[j];exact λz=>nomatch z),t.gr g⟩
def Sv.lk{K:Frag}(h:Sv K H F E v d)(r:RlO K mg O H F E):Lk K H F E v (aV O d):=by
 rcases h with h | ⟨a,f,j,rfl,rfl,u,C,t⟩
 ·cases d with
  |ob n =>
   obtain⟨a,rfl,m⟩:=h.unO;unfold aV
   dsimp
   split
   ·rename_i j e;obtain⟨f,y,x⟩:=r.ob n a _ m e;exact .inr ⟨a,f,j,rfl,rfl,y,x⟩
   ·exact .inl (Rp.mkO m)
  | _=>exact .inl h
 ·exact .inr ⟨a,f,j,rfl,rfl,u,t⟩
def Lk.list{K:Frag}  (h:Lk K H F u v (.lst ds))(fh:Same F H):∃a xs,v=.ref a/\RdK K H a xs/\Rps K F u xs ds:=by
 rcases h with h | ⟨a,xs,t,m,j,f,d⟩
 ·obtain⟨a,xs,e,h1,h2⟩:=h.unL;exact⟨a,xs,e,h1.mono fh,h2⟩
 ·cases j;exact⟨a,xs,m,.inl (.inl f),d⟩
def Lk.rp{K:Frag}(h:Lk K H F y v d)(f:iu d=true):Rp K F y v d:=by
 rcases h with h | ⟨a,m,j,x,rfl,u,t⟩
 ·exact h
 ·cases f
def Sv.rp{K:Frag}(h:Sv K H F y v d)(f:iu d=true):Rp K F y v d:=by
 rcases h with h | ⟨a,m,j,x,rfl,u,t⟩
 ·exact h
 ·cases f
def Gr.lay   (d:H p=none):Gr H F j (upd H p o) F j :=
 ⟨λ_ _ _ _ _=>rfl,Same.refl F,⟨[],by simp,λ_ h=>nomatch h⟩,λa f e _ _=>by rw[aD (bT e d)];exact e,λa e=>by
  by_cases h:a=p
  ·subst h;exact d
  ·rwa [aD h] at e,λa f u e=>by rw[aD (bT e d)];exact e⟩
def ObR.keep{K:Frag}   (h:ObR K mg H F as a o)(f:H' a=H a)(e:Same F F')(j:∀(n:Nat) (a:Addr),as[n]?=some a->as'[n]?=some a):ObR K mg H' F' as' a o:=by
 cases o with
 |ins c fs =>
  obtain⟨C,x,gs,h1,h2,h3,h4⟩:=h;exact⟨C,x,gs,h1,by rw[f];exact h2,h3,Rps.mono e j _ h4⟩
 |ml ds =>
  obtain⟨d,h1,h2⟩:=h;exact⟨d,by rw[f];exact h1,Rps.mono e j _ h2⟩
 |dt kvs =>
  obtain⟨d,h1,h2,h3⟩:=h;exact⟨d,by rw[f];exact h1,h2,Rps.mono e j _ h3⟩
 |df kvs =>
  obtain⟨o,d,h1,h2,h3⟩:=h;exact⟨o,d,by rw[f];exact h1,h2,Rps.mono e j _ h3⟩
 |dk kvs =>
  obtain⟨d,h1,h2,h3⟩:=h;exact⟨d,by rw[f];exact h1,h2,Rps.mono e j _ h3⟩
 |kf kvs =>
  obtain⟨o,d,h1,h2,h3⟩:=h;exact⟨o,d,by rw[f];exact h1,h2,Rps.mono e j _ h3⟩
 |xc c fs =>
  obtain⟨C,m,u,h1,h2,h3,h4,t⟩:=h;exact⟨C,m,u,h1,by rw[f];exact h2,h3,h4,t.mono e j⟩
 |gone =>
  obtain⟨φ,h1⟩:=h;exact⟨φ,by rw[f];exact h1⟩
 |dn kvs =>
  obtain⟨d,h1,h2,h3⟩:=h;exact⟨d,by rw[f];exact h1,h2,Rps.mono e j _ h3⟩
 |nf kvs =>
  obtain⟨o,d,h1,h2,h3⟩:=h;exact⟨o,d,by rw[f];exact h1,h2,Rps.mono e j _ h3⟩
def RlO.at{K:Frag}{n:Nat}   (r:RlO K mg O H F as)(m:as[n]?=some a)(j:O[n]?=some o):H a≠none:=by
 have q:=r.ob n a o m j
 cases o with
 |ins c fs=>obtain⟨C,x,gs,h1,h2,_⟩:=q;rw[h2];exact λz=>nomatch z
 |ml y=>obtain⟨f,h1,_⟩:=q;rw[h1];exact λz=>nomatch z
 |dt d=>obtain⟨f,h1,_⟩:=q;rw[h1];exact λz=>nomatch z
 |df d=>obtain⟨o,f,h1,_⟩:=q;rw[h1];exact λz=>nomatch z
 |dk d=>obtain⟨f,h1,_⟩:=q;rw[h1];exact λz=>nomatch z
 |kf d=>obtain⟨o,f,h1,_⟩:=q;rw[h1];exact λz=>nomatch z
 |xc c fs=>obtain⟨C,t,u,_,h1,_⟩:=q;rw[h1];exact λz=>nomatch z
 |gone=>obtain⟨φ,h1⟩:=q;rw[h1];exact λz=>nomatch z
 |dn d=>obtain⟨f,h1,_⟩:=q;rw[h1];exact λz=>nomatch z
 |nf d=>obtain⟨o,f,h1,_⟩:=q;rw[h1];exact λz=>nomatch z
def RlO.all{K:Frag}  (r:RlO K mg O H F m)(f:a∈m):H a≠none:=by
 obtain⟨n,d,e⟩:=List.mem_iff_getElem.mp f
 have j:n<O.length:=by rw[<-r.len];exact d
 exact r.at (n:=n) (by rw[zt d,e]) (zt j)
def RlO.lay{K:Frag}   (r:RlO K mg O H F m)(f:H p=none):RlO K mg O (upd H p o) F m:=by
 refine⟨λa u e=>?_,r.fd,r.nd,r.len,r.fa,λn a u j d=>(r.ob n a u j d).keep (aD ?_) (Same.refl F) λ_ _ h=>h⟩
 ·have q:=r.fh a u e;rw[aD (bT q f)];exact q
 ·intro z;subst z;exact r.at j d f
def Gr.frz{H F t j:Hp}{m d:List Addr}{p:Addr}{o:HO}(y:H p=none)(g:Gr H F m t j d)(E:j p=none):Gr H F m t (upd j p o) d :=
 ⟨λa x f C hd=>by rw[aD (λz=>by subst z;rw[y] at f;cases f)];exact g.fz a x f C hd,λa u e=>by
  have q:=g.ff a u e
  rw[aD (bT q E)];exact q,g.nw,g.fr,g.dm,g.kz⟩
def RlO.frz{K:Frag}{mg:Str->Option Value}{H F:Hp}{d:List Addr}{O:au}{p:Addr}{o:HO}(r:RlO K mg O H F d)(f:H p=some o)(j:F p=none)(m:p∉d)(hd:isD o=true):RlO K mg O H (upd F p o) d:=by
 have ff:Same F (upd F p o):=λa u e=>by rw[aD (bT e j)];exact e
 refine⟨λa u e=>?_,λa u e=>?_,r.nd,r.len,λa h=>?_,λn a u h1 h2=>(r.ob n a u h1 h2).keep rfl ff λ_ _ h=>h⟩
 ·by_cases h:a=p
  ·subst h;rw[bx] at e;cases e;exact f
  ·rw[aD h] at e;exact r.fh a u e
 ·by_cases h:a=p
  ·subst h;rw[bx] at e;cases e;exact hd
  ·rw[aD h] at e;exact r.fd a u e
 ·rw[aD (λz=>by subst z;exact m h)];exact r.fa a h
abbrev RR:=(Addr->Prop)->Hp->Hp->List Addr->V->D->Prop
def rV(K:Frag):RR:=λ_ _ F f v d=>Rp K F f v d
def rS(K:Frag):RR:=λ_ H F f v d=>Sv K H F f v d
def rO(K:Frag):RR:=λN H F f v d=>Ow K N H F f v d
def rA(K:Frag):Md->RR
 | .v=>rV K
 | _=>rS K
def d7(R:RR):Prop:=∀(N j:Addr->Prop) (H F:Hp) (f:List Addr) (v:V) (d:D),(∀a,N a->j a)->R N H F f v d->R j H F f v d
def jy{K:Frag}:d7 (rV K):=λ_ _ _ _ _ _ _ _ h=>h
def fD{K:Frag}:d7 (rO K):=λN J H F I v d j h=>by
 rcases h with h | ⟨a,f,G,E,C,y,x,u,t,m⟩
 ·exact .inl h
 ·exact .inr ⟨a,f,G,E,C,y,x,u,j a t,m⟩
inductive tM (K:Frag) (mg:Str->Option Value) (md:List Md) (P:Pt) (R:RR) (m:M D) (σ:St) (H:Hp) (Q:VK):Prop
 | mk (ρ:aK) (O:au) (F:Hp) (as:List Addr) (d:D) (O':au):RlO K mg O H F as->SlO K md P ρ σ H F as->m ρ O=.ok d O' ->
  (∀v H' F' as',Gr H F as H' F' as'->RlO K mg O' H' F' as'->R (λa=>H a=none) H' F' as' v d->Q v H')->tM K mg md P R m σ H Q
inductive tMT (K:Frag) (mg:Str->Option Value) (md:List Md) (P:Pt) (m:M Bool) (σ:St) (H:Hp) (Q:Bool->Hp->Prop):Prop
 | mk (ρ:aK) (O:au) (F:Hp) (as:List Addr) (b:Bool) (O':au):RlO K mg O H F as->SlO K md P ρ σ H F as->m ρ O=.ok b O' ->
  (∀H' F' as',Gr H F as H' F' as'->RlO K mg O' H' F' as'->Q b H')->tMT K mg md P m σ H Q
def bN(K:Frag)(H F:Hp)(f:List Addr):List Md->List V->List D->Prop
 | [],[],[]=>True
 |m::ms,v::vs,d::ds=>rA K m (λ_=>True) H F f v d/\bN K H F f ms vs ds
 | _,_,_=>False
inductive tMA (K:Frag) (mg:Str->Option Value) (md:List Md) (P:Pt) (ms:List Md) (m:M (List D)) (σ:St) (H:Hp) (Q:List V->Hp->Prop):Prop
 | mk (ρ:aK) (O:au) (F:Hp) (as:List Addr) (ds:List D) (O':au):RlO K mg O H F as->SlO K md P ρ σ H F as->m ρ O=.ok ds O' ->
  (∀vs H' F' as',Gr H F as H' F' as'->RlO K mg O' H' F' as'->bN K H' F' as' ms vs ds->Q vs H')->tMA K mg md P ms m σ H Q
def XE(X:Cx)(md:List Md)(P:Pt)(R:RR)(e:Expr)(m:M D):Prop:=PE X e (tM X.K X.mg md P R m)
def VE(X:Cx)(md:List Md)(P:Pt)(e:Expr)(m:M D):Prop:=PE X e (tM X.K X.mg md P (rV X.K) m)
def SE(X:Cx)(md:List Md)(P:Pt)(e:Expr)(m:M D):Prop:=PE X e (tM X.K X.mg md P (rS X.K) m)
def OE(X:Cx)(md:List Md)(P:Pt)(e:Expr)(m:M D):Prop:=PE X e (tM X.K X.mg md P (rO X.K) m)
def TsE(X:Cx)(md:List Md)(P:Pt)(e:Expr)(m:M Bool):Prop:=PT X e (tMT X.K X.mg md P m)
def TwE(X:Cx)(md:List Md)(P:Pt)(e:Expr)(m:M Bool):Prop:=PW X e (tMT X.K X.mg md P m)
def AE(X:Cx)(md:List Md)(P:Pt)(ms:List Md)(es:List Expr)(m:M (List D)):Prop:=PA X es (tMA X.K X.mg md P ms m)
def jz(K:Frag)(mg:Str->Option Value)(md:List Md)(P:Pt)(R:RR)(D:Ends)(H F:Hp)(u:List Addr):Fl->Prop
 | .nx ρ' O'=>∀m j t f,GrS P H F u j t f->RlO K mg O' j t f->SlO K md P ρ' m j t f->D.nx m j
 | .bk ρ' O'=>∀m j t f,GrS P H F u j t f->RlO K mg O' j t f->SlO K md P ρ' m j t f->D.bk m j
 | .ct ρ' O'=>∀m j t f,GrS P H F u j t f->RlO K mg O' j t f->SlO K md P ρ' m j t f->D.ct m j
 | .rt d O'=>∀v j t f,GrS P H F u j t f->RlO K mg O' j t f->R (λa=>¬P a) j t f v d->D.rt v j
 | .ex _ _=>False
 | .no=>False
inductive tMS (K:Frag) (mg:Str->Option Value) (md:List Md) (P:Pt) (R:RR) (m:MS) (D:Ends) (σ:St) (H:Hp):Prop
 | mk (ρ:aK) (O:au) (F:Hp) (as:List Addr):RlO K mg O H F as->SlO K md P ρ σ H F as->jz K mg md P R D H F as (m ρ O)->tMS K mg md P R m D σ H
def VS(X:Cx)(md:List Md)(P:Pt)(R:RR)(st:Stmt)(m:MS):Prop:=PS X st (tMS X.K X.mg md P R m)
def VSs(X:Cx)(md:List Md)(P:Pt)(R:RR)(st:List Stmt)(m:MS):Prop:=PSs X st (tMS X.K X.mg md P R m)
section
variable {X:Cx}{md:List Md}{P:Pt}{R:RR}
def PE.imp   (h:PE X e t)(k:∀σ H Q,t' σ H Q->t σ H Q):PE X e t':=λpins s σ H Q I q=>h pins s σ H Q I (k σ H Q q)
def PT.imp   (h:PT X e t)(k:∀σ H Q,t' σ H Q->t σ H Q):PT X e t':=λpins s σ H Q I q=>h pins s σ H Q I (k σ H Q q)
def PW.imp   (h:PW X e t)(k:∀σ H Q,t' σ H Q->t σ H Q):PW X e t':=λw pins s σ H Q I q=>h w pins s σ H Q I (k σ H Q q)
def PA.imp   (h:PA X e t)(k:∀σ H Q,t' σ H Q->t σ H Q):PA X e t':=λd pins s σ H Q I q=>h d pins s σ H Q I (k σ H Q q)
def PS.imp   (h:PS X e t)(k:∀D σ H,t' D σ H->t D σ H):PS X e t':=λpins s σ H D I q=>h pins s σ H D I (k D σ H q)
def PSs.imp   (h:PSs X e t)(k:∀D σ H,t' D σ H->t D σ H):PSs X e t':=λpins s σ H D I q=>h pins s σ H D I (k D σ H q)
noncomputable def aa(i:Nat):M D:=λρ O=>match ρ[i]? with
 |some (some d)=>.ok d O
 | _=>.no
noncomputable def mC(d:D):M D:=λ_ O=>.ok d O
def mG(m:M D):M D:=λρ O=>match m ρ O with
 | .ok d O'=>if iu d=true then .ok d O' else .no
 |r=>r
def pR     (h:aa i ρ O=.ok d j):ρ[i]?=some (some d)/\j=O:=by
 unfold aa at h;split at h
 ·rename_i f e;cases h;exact⟨e,rfl⟩
 ·cases h
def Es     (h:mG m ρ O=.ok d x):m ρ O=.ok d x/\iu d=true:=by
 unfold mG at h;split at h
 ·rename_i t u e;split at h
  ·rename_i j;cases h;exact⟨e,j⟩
  ·cases h
 ·rename_i f;exact absurd h (f _ _)
def SlO.get{md:List Md}{P:Pt}{K:Frag}{ρ:aK}{σ:St}{H F:Hp}{j:List Addr}{i:Nat}{d:D}(s:SlO K md P ρ σ H F j)(h:ρ[i]?=some (some d)):∃m v,md[i]?=some m/\σ[i]?=some (some v)/\gM P K H F j m v d:=by
 have f:i<md.length:=by rw[<-s.len'];exact(zu.mp h).1
 obtain⟨v,h1,h2⟩:=s.sl i md[i] d (zt f) h;exact⟨_,v,zt f,h1,h2⟩
def gM.sv{K:Frag}      (h:gM P K H F as m v d):Sv K H F as v d:=by
 cases m with
 |v=>exact .inl h
 |s =>
  rcases h with h | ⟨a,f,C,y,x,u,t,E,j⟩
  ·exact .inl h
  ·exact .inr ⟨a,f,C,y,x,u,t,j⟩
 |o =>
  rcases h with⟨_,h⟩ | ⟨a,f,C,y,x,u,G,t,E,j⟩
  ·exact .inl h
  ·exact .inr ⟨a,f,C,y,x,u,t,j⟩
def U3{X:Cx}{md:List Md}{P:Pt}(i:Nat)  {f:Pos}(hN:X.N[i]?=some x:=by rfl)(t:Vis X.env.scope x:=by first | exact Or.inl rfl | exact Or.inr (Or.inl rfl) | exact Or.inr (Or.inr rfl))
  (hd:(x == ("__debug__":Str))=false:=by decide) (j:(x == ("__classdict__":Str))=false:=by decide):SE X md P (.Name x f) (aa i):=by
 refine(jY hN t hd j).imp λσ H Q h=>?_
 obtain⟨ρ,O,F,y,d,C,r,s,e,k⟩:=h;obtain⟨u,rfl⟩:=pR e;obtain⟨m,v,h1,h2,h3⟩:=s.get u;exact⟨v,h2,k v H F y Gr.refl r h3.sv⟩
def U4{X:Cx}{P:Pt}(i:Nat){x:Str}{f:Pos}(t:md[i]?=some .v:=by rfl)(hN:X.N[i]?=some x:=by rfl)(m:Vis X.env.scope x:=by first | exact Or.inl rfl | exact Or.inr (Or.inl rfl) | exact Or.inr (Or.inr rfl))
  (hd:(x == ("__debug__":Str))=false:=by decide) (j:(x == ("__classdict__":Str))=false:=by decide):VE X md P (.Name x f) (aa i):=by
 refine(jY hN m hd j).imp λσ H Q h=>?_
 obtain⟨ρ,O,F,y,d,C,r,s,e,k⟩:=h;obtain⟨u,rfl⟩:=pR e;obtain⟨v,h2,h3⟩:=s.sl i .v d t u;exact⟨v,h2,k v H F y Gr.refl r h3⟩
def U5   (h:VE X md P e m):SE X md P e m:=h.imp λσ H Q q=>by
 obtain⟨ρ,O,F,t,d,C,r,s,e,k⟩:=q;exact⟨ρ,_,F,t,_,_,r,s,e,λv u x y g f j=>k v u x _ g f (.inl j)⟩
def wQ   (h:SE X md P e m):VE X md P e (mG m):=h.imp λσ H Q q=>by
 obtain⟨ρ,O,F,u,d,E,r,s,e,k⟩:=q;obtain⟨e,t⟩:=Es e;exact⟨ρ,_,F,u,_,_,r,s,e,λv x y C g f j=>k v x y _ g f (Sv.rp j t)⟩
def U6   (h:VE X md P e m):OE X md P e (mG m):=h.imp λσ H Q q=>by
 obtain⟨ρ,O,F,x,d,E,r,s,e,k⟩:=q;obtain⟨e,u⟩:=Es e;exact⟨ρ,_,F,x,_,_,r,s,e,λv y C f g j t=>k v y C f g j (.inl ⟨u,t⟩)⟩
def U7   (h:OE X md P e m):VE X md P e m:=h.imp λσ H Q q=>by
 obtain⟨ρ,O,F,T,d,W,r,s,e,k⟩:=q;refine⟨ρ,_,F,T,_,_,r,s,e,λv E j f g C t=>?_⟩
 rcases t with⟨_,t⟩ | ⟨a,y,U,rfl,rfl,L,x,J,I,G⟩
 ·exact k v E j f g C t
 ·have ff:Same j (upd j a (.lst y)):=λb u q=>by rw[aD (bT q x)];exact q
  refine k _ E (upd j a (.lst y)) f (g.frz I x) (C.frz L x J rfl) (Rp.mkL (.inl (.inl bx)) (Rps.mono ff (λ_ _ z=>z) _ G))
def pU    (h:PE X e (tC v))(hd:∀K F f,Rp K F f v d):VE X md P e (mC d):=h.imp λσ H Q q=>by
 obtain⟨ρ,O,F,f,d,j,r,s,e,k⟩:=q;cases e;exact k v H F f Gr.refl r (hd _ _ _)
def U8  :VE X md P (.Constant (.int i) j d) (mC (.int i)):=pU Pz λ_ _ _=>Rp.int
def U9  :VE X md P (.Constant (.bool b) j d) (mC (.bl b)):=pU PB λ_ _ _=>Rp.bl
def Va :VE X md P (.Constant .none j d) (mC .non):=pU PJ λ_ _ _=>Rp.non
def Vb   (l:List Nat)(hx:x=S l:=by decide +kernel):VE X md P (.Constant (.str x) j pos) (mC (.str l)):=pU CJ λ_ _ _=>by rw[hx];exact Rp.str
def Et{md:List Md}{P:Pt}    {f:Pos}(h:∃u,X.mg x=some u/\RelV v u)(hd:∀K F t,Rp K F t v d)(m:Gl X x:=by rfl)(j:(x == ("__debug__":Str))=false:=by decide):VE X md P (.Name x f) (mC d):=pU (Em h m j) hd
noncomputable def ao:M (List D):=λ_ O=>.ok [] O
noncomputable def aj(m:M D)(r:M (List D)):M (List D):=λρ O=>(m ρ O).bind λd t=>(r ρ t).bind λf j=>.ok (d::f) j
def Eu:AE X md P [] [] ao:=fC.imp λσ H Q q=>by
 obtain⟨ρ,O,F,f,d,j,r,s,e,k⟩:=q;cases e;exact k [] H F f Gr.refl r trivial
def rA.gr{K:Frag}       (h:rA K m N H F as v d)(g:Gr H F as H' F' as'):rA K m (λ_=>True) H' F' as' v d:=by
 cases m with
 |v=>exact Rp.gr (show Rp K F as v d from h) g
 |s=>exact Sv.gr (show Sv K H F as v d from h) g
 |o=>exact Sv.gr (show Sv K H F as v d from h) g
theorem bN.gr{K:Frag}   (g:Gr H F as H' F' as'):∀{ms:List Md}{vs:List V}{ds:List D},bN K H F as ms vs ds->bN K H' F' as' ms vs ds
 | [],[],[],_=>trivial
 |m::ms,v::vs,d::ds,h=>⟨rA.gr h.1 g,bN.gr g h.2⟩
 | [],[],_::_,h=>h.elim
 | [],_::_,[],h=>h.elim
 | [],_::_,_::_,h=>h.elim
 | _::_,[],[],h=>h.elim
 | _::_,[],_::_,h=>h.elim
 | _::_,_::_,[],h=>h.elim
def Ew(f:Md)      (h:XE X md P (rA X.K f) e m)(I:AE X md P ms es r)
  (hs:starEach (e::es) X.env=(false,eval e X.env)::starEach es X.env:=by exact bM rfl):AE X md P (f::ms) (e::es) (aj m r):=(dY h I hs).imp λσ H Q q=>by
 obtain⟨ρ,O,F,T,d,O',E,s,e,k⟩:=q;obtain⟨d,O1,L,e⟩:=Res.bind_ok e;obtain⟨Z,O2,J,e⟩:=Res.bind_ok e;cases e;refine⟨ρ,_,F,T,_,_,E,s,L,λv H1 Y t x C G=>?_⟩;refine⟨ρ,_,Y,t,_,_,C,s.step x,J,λvs U W as2 u y j=>?_⟩;exact k _ U W _ (x.trans u) y ⟨rA.gr G u,j⟩
def Vc      (h:VE X md P e m)(d:AE X md P ms es r)
  (hs:starEach (e::es) X.env=(false,eval e X.env)::starEach es X.env:=by exact bM rfl):AE X md P (.v::ms) (e::es) (aj m r):=Ew .v h d hs
def Ex      (h:SE X md P e m)(d:AE X md P ms es r)
  (hs:starEach (e::es) X.env=(false,eval e X.env)::starEach es X.env:=by exact bM rfl):AE X md P (.s::ms) (e::es) (aj m r):=Ew .s h d hs
theorem bN.rps{K:Frag}  :∀{n:Nat}{vs:List V}{ds:List D},bN K H F as (List.replicate n .v) vs ds->Rps K F as vs ds
 | 0,[],[],_=>Rps.nil
 |n+1,v::vs,d::ds,h=>by
  rw[List.replicate_succ] at h;exact Rps.cons h.1 (bN.rps h.2)
 | 0,[],_::_,h=>h.elim
 | 0,_::_,[],h=>h.elim
 | 0,_::_,_::_,h=>h.elim
 |n+1,[],[],h=>h.elim
 |n+1,[],_::_,h=>h.elim
 |n+1,_::_,[],h=>h.elim
noncomputable def bJ(r:M (List D)):M D:=λρ O=>(r ρ O).bind λd f=>if d.length<=1000000 then .ok (.lst d) f else .no
noncomputable def aX(r:M (List D)):M D:=λρ O=>(r ρ O).bind λd f=>if d.length<=1000000 then .ok (.tup d) f else .no
def d8  (h:n<=1000000):n<=sizeLine:=zN h (by decide)
def Vd    (n:Nat)(h:AE X md P (List.replicate n .v) es r):OE X md P (.List es T) (bJ r):=(R1 h).imp λσ H Q q=>by
 obtain⟨ρ,O,F,E,d,J,x,s,e,k⟩:=q;obtain⟨ds,I,C,e⟩:=Res.bind_ok e;split at e
 ·rename_i hz;cases e;refine⟨ρ,_,F,E,_,_,x,s,C,λvs L m G u j hv=>?_⟩;have t:=hv.rps;refine⟨by rw[t.length];exact d8 hz,λp f=>?_⟩
  have y:m p=none:=by
   cases q:m p with
   |none=>rfl
   |some o=>rw[j.fh p o q] at f;cases f
  refine k _ _ m _ (u.trans (Gr.lay f)) (j.lay f) (.inr ⟨p,vs,ds,rfl,rfl,bx,y,λz=>j.all z f,u.dm p f,t⟩)
 ·cases e
def Ve     (n:Nat)(h:AE X md P (List.replicate n .v) es r):VE X md P (.Tuple es W U) (aX r):=(R0 h).imp λσ H Q q=>by
 obtain⟨ρ,O,F,G,d,L,C,s,e,k⟩:=q;obtain⟨ds,J,E,e⟩:=Res.bind_ok e;split at e
 ·rename_i hz;cases e;refine⟨ρ,_,F,G,_,_,C,s,E,λvs T j I y m hv=>?_⟩;have x:=hv.rps;refine⟨by rw[x.length];exact d8 hz,λp f=>?_⟩
  have t:j p=none:=by
   cases q:j p with
   |none=>rfl
   |some o=>rw[m.fh p o q] at f;cases f
  have ff:Same j (upd j p (.tup vs)):=λb u q=>by rw[aD (bT q t)];exact q
  refine k _ _ _ _ ((y.trans (Gr.lay f)).frz (y.dm p f) t) ((m.lay f).frz bx t (λz=>m.all z f) rfl) (Rp.mkT (.inl bx) (Rps.mono ff (λ_ _ z=>z) _ x))
 ·cases e
inductive rD (K:Frag) (mg:Str->Option Value) (g:D->D->Option D) (x:V) (y:V) (H:Hp) (Q:VK):Prop
 |mk:∀O F as dx dy d,RlO K mg O H F as->Lk K H F as x dx->Lk K H F as y dy->g dx dy=some d->(∀v' H' F',Gr H F as H' F' as->RlO K mg O H' F' as->Ow K (λa=>H a=none) H' F' as v' d->Q v' H')->rD K mg g x y H Q
abbrev OpD(X:Cx)(f:Value->Value->Sem Value)(g:D->D->Option D):Prop:=OpR X f (rD X.K X.mg g)
def ak(g:D->D->Option D)(ma mb:M D):M D:=λρ O=>(ma ρ O).bind λx j=>(mb ρ j).bind λy f=>match g (aV f x) (aV f y) with
 |some d=>.ok d f
 |none=>.no
def wR{K:Frag}       (h:tM K mg md P (rO K) (ak g ma mb) σ H Q):tOp (rD K mg g) (tM K mg md P (rS K) ma) (tM K mg md P (rS K) mb) σ H Q:=by
 obtain⟨ρ,O,F,as,d,O',r,sl,e,k⟩:=h;obtain⟨x,O1,e1,e⟩:=Res.bind_ok e;obtain⟨y,O2,Z,e⟩:=Res.bind_ok e;split at e
 ·rename_i d' U;cases e;refine⟨ρ,_,F,as,_,_,r,sl,e1,λv H1 F1 C m G L=>?_⟩;refine⟨ρ,_,F1,C,_,_,G,sl.step m,Z,λu H2 F2 t j f T=>?_⟩;refine⟨_,F2,t,_,_,_,f,Sv.lk (Sv.gr L j) f,Sv.lk T f,U,λE H' F' Y I J=>?_⟩;exact k E H' F' _ ((m.trans j).trans Y) I (fD _ _ _ _ _ _ _ (λa W=>(m.trans j).dm a W) J)
 ·cases e
def nJ      (d:OpD X (binaryOp op) g)(f:SE X md P m ma)(hb:SE X md P j mb):OE X md P (.BinOp m op j t) (ak g ma mb):=
 (QZ d f hb).imp λ_ _ _=>wR
def Ey      (d:OpD X (compareOp op) g)(j:SE X md P t ma)(hb:SE X md P m mb)(f:behindInMarks op m=false):OE X md P (.Compare t [op] [m] u) (ak g ma mb):=
 (Rk d j hb f).imp λ_ _ _=>wR
noncomputable def az(m:M D):M Bool:=λρ O=>(m ρ O).bind λd f=>match d with
 | .bl b=>.ok b f
 | _=>.no
def pX{K:Frag}      (h:tMT K mg md P (az m) σ H Q):rP (tM K mg md P (rO K) m) σ H Q:=by
 obtain⟨ρ,O,F,y,d,T,r,sl,e,k⟩:=h;obtain⟨d,L,x,e⟩:=Res.bind_ok e
 cases d with
 |bl c =>
  cases e;refine⟨ρ,_,F,y,_,_,r,sl,x,λv C E G t j f=>?_⟩
  rcases f with⟨_,f⟩ | ⟨a,I,J,_,u,_⟩
  ·exact⟨_,f.unB,k C E _ t j⟩
  ·cases u
 | _=>cases e
def nM      (d:OpD X (compareOp op) g)(j:SE X md P t ma)(hb:SE X md P m mb)(f:behindInMarks op m=false):TsE X md P (.Compare t [op] [m] u) (az (ak g ma mb)):=
 (Rm d j hb f).imp λσ H Q h=>by
  have q:=pX h;exact wR q
def fV(g g':D->D->Option D)(ma mb m:M D):M D:=λρ O=>(ma ρ O).bind λx t=>(mb ρ t).bind λy f=>match g (aV f x) (aV f y) with
 |some (.bl true)=>(m ρ f).bind λz j=>match g' (aV j y) (aV j z) with
  |some d=>.ok d j
  |none=>.no
 |some (.bl false)=>.ok (.bl false) f
 | _=>.no
def Ez{K:Frag}       (h:tM K mg md P (rO K) (fV g t ma mb mc) σ H Q):
  v7 (rD K mg g) (rD K mg t) (tM K mg md P (rS K) ma) (tM K mg md P (rS K) mb) (tM K mg md P (rS K) mc) σ H Q:=by
 obtain⟨ρ,O,F,as,d,O',r,sl,e,k⟩:=h;obtain⟨x,O1,e1,e⟩:=Res.bind_ok e;obtain⟨y,O2,e2,e⟩:=Res.bind_ok e;refine⟨ρ,_,F,as,_,_,r,sl,e1,λv H1 F1 as1 U r1 hv=>?_⟩;refine⟨ρ,_,F1,as1,_,_,r1,sl.step U,e2,λu H2 F2 j C m I=>?_⟩;split at e
 ·rename_i J;obtain⟨z,O3,e3,e⟩:=Res.bind_ok e;refine⟨_,F2,j,_,_,_,m,Sv.lk (Sv.gr hv C) m,Sv.lk I m,J,λv' H' W t G f=>?_⟩
  rcases f with⟨_,f⟩ | ⟨a,xs,ds,_,z,_⟩
  ·refine⟨true,f.unB,?_⟩;split at e
   ·rename_i d' Z;cases e;have T:=(U.trans C).trans t;refine⟨ρ,_,W,j,_,_,G,sl.step T,e3,λw H4 F4 as4 L E hz=>?_⟩;refine⟨_,F4,as4,_,_,_,E,Sv.lk (Sv.gr (Sv.gr I t) L) E,Sv.lk hz E,Z,λv5 H5 F5 g5 r5 Y=>?_⟩;exact k v5 H5 F5 _ ((T.trans L).trans g5) r5 (fD _ _ _ _ _ _ _ (λa ha=>(T.trans L).dm a ha) Y)
   ·cases e
  ·cases z
 ·rename_i J;cases e;refine⟨_,F2,j,_,_,_,m,Sv.lk (Sv.gr hv C) m,Sv.lk I m,J,λv' H' W t G f=>?_⟩
  rcases f with⟨_,f⟩ | ⟨a,xs,ds,_,z,_⟩
  ·refine⟨false,f.unB,?_⟩;exact k _ H' W _ ((U.trans C).trans t) G (.inl ⟨rfl,Rp.bl⟩)
  ·cases z
 ·cases e
def Vf      (f:OpD X (compareOp op) g)(d:OpD X (compareOp u) g')(t:SE X md P a ma)(hb:SE X md P b mb)(m:SE X md P c x)
  (j:lastMarks [op,u] [b,c]=false:=by with_unfolding_all rfl):OE X md P (.Compare a [op,u] [b,c] pos) (fV g g' ma mb x):=(Rn f d t hb m j).imp λ_ _ _=>Ez
def Vg      (f:OpD X (compareOp op) g)(d:OpD X (compareOp u) g')(t:SE X md P a ma)(hb:SE X md P b mb)(m:SE X md P c x)
  (j:lastMarks [op,u] [b,c]=false:=by with_unfolding_all rfl):TsE X md P (.Compare a [op,u] [b,c] pos) (az (fV g g' ma mb x)):=(Ro f d t hb m j).imp λ_ _ _ h=>Ez (pX h)
def isNon:D->Bool
 | .non=>true
 | _=>false
def iw(m:M D):M D:=λρ O=>(m ρ O).bind λd f=>.ok (.bl (isNon d)) f
def kh(m:M D):M D:=λρ O=>(m ρ O).bind λd f=>.ok (.bl (!isNon d)) f
def Sv.isN{K:Frag}     (h:Sv K H F m v d):decide (v=.non)=isNon d:=by
 rcases h with h | ⟨a,f,j,rfl,rfl,_⟩
 ·cases d with
  |non=>rw[h.unN];rfl
  |bl b=>rw[h.unB];rfl
  |int b=>rw[h.unI];rfl
  |str b=>rw[h.unS];rfl
  |lst b=>obtain⟨a,f,rfl,_⟩:=h.unL;rfl
  |tup b=>obtain⟨a,f,rfl,_⟩:=h.unT;rfl
  |dic k b=>obtain⟨a,f,rfl,_⟩:=h.unD;rfl
  |ob b=>obtain⟨a,rfl,_⟩:=h.unO;rfl
 ·rfl
def Vh{K:Frag}      (h:tM K mg md P (rO K) (iw m) σ H Q):CK (tM K mg md P (rS K) m) σ H Q:=by
 obtain⟨ρ,O,F,y,d,J,r,sl,e,k⟩:=h;obtain⟨x,I,u,e⟩:=Res.bind_ok e;cases e;refine⟨ρ,_,F,y,_,_,r,sl,u,λv C E G t f j=>?_⟩;rw[Sv.isN j];exact k _ C E _ t f (.inl ⟨rfl,Rp.bl⟩)
def Vi{K:Frag}      (h:tM K mg md P (rO K) (kh m) σ H Q):CN (tM K mg md P (rS K) m) σ H Q:=by
 obtain⟨ρ,O,F,y,d,J,r,sl,e,k⟩:=h;obtain⟨x,I,u,e⟩:=Res.bind_ok e;cases e;refine⟨ρ,_,F,y,_,_,r,sl,u,λv C E G t f j=>?_⟩;rw[Sv.isN j];exact k _ C E _ t f (.inl ⟨rfl,Rp.bl⟩)
def EY     (h:∀d,t σ H d->t' σ H d)(q:rP t σ H Q):tB t' σ H Q:=h _ q
def Vj     (h:SE X md P a m):TsE X md P (.Compare a [.Is] [.Constant .none j d] f) (az (iw m)):=(vQ (PP h)).imp λ_ _ _ q=>EY (λ_=>Vh) (pX q)
def Vk     (h:SE X md P a m):TsE X md P (.Compare a [.IsNot] [.Constant .none j d] f) (az (kh m)):=(vQ (PQ h)).imp λ_ _ _ q=>EY (λ_=>Vi) (pX q)
def lO:D->Option Bool
 | .non=>some false
 | .bl b=>some b
 | .int i=>some (i != 0)
 | .str l=>if l.length<=1000000 then some (!l.isEmpty) else none
 | .lst ds=>some (!ds.isEmpty)
 | .tup ds=>some (!ds.isEmpty)
 | .dic ks _=>some (!ks.isEmpty)
 | .ob _=>none
def bK(m:M D):M Bool:=λρ O=>(m ρ O).bind λd f=>match lO (aV f d) with
 |some b=>.ok b f
 |none=>.no
def Fb{α β:Type}{xs:List α}{ys:List β}(h:xs.length=ys.length):(!xs.isEmpty) = !ys.isEmpty:=by
 cases xs<;>cases ys<;>simp_all
def Lk.tru{K:Frag}      (h:Lk K H F as v d)(fh:Same F H)(e:lO d=some b):v8 K v H b:=by
 cases d with
 |non=>rw[(h.rp rfl).unN];cases e;rfl
 |bl b=>rw[(h.rp rfl).unB];cases e;rfl
 |int b=>rw[(h.rp rfl).unI];cases e;rfl
 |str l =>
  rw[(h.rp rfl).unS];simp only[lO] at e;split at e
  ·rename_i m;cases e;refine⟨by rw[gK];exact d8 m,?_⟩;rw[gK]
   cases l with
   |nil=>rfl
   |cons c l =>
    have:((((c::l).length:Nat):Int) != 0)=true:=by
     rw[bne_iff_ne,zw];omega
    rw[this];rfl
  ·cases e
 |lst ds =>
  obtain⟨a,j,rfl,h1,h2⟩:=h.list fh;cases e;exact .inl ⟨j,h1.sq,(Fb h2.length).symm⟩
 |tup ds =>
  obtain⟨a,j,rfl,h1,h2⟩:=(h.rp rfl).unT;cases e;exact .inr (.inl ⟨j,Same.seqT fh h1,(Fb h2.length).symm⟩)
 |dic ks vs =>
  obtain⟨a,f,rfl,h1,rfl,h2⟩:=(h.rp rfl).unD;cases e;exact .inr (.inr ⟨f,fh _ _ h1,by cases f<;>rfl⟩)
 |ob n=>cases e
def Vl   (h:SE X md P a m)(t:∀whole,isTrue a X.env whole=(do let v <-whole;standAt a.pos;holding [v] (truthy v)):=by intro _;rfl):TsE X md P a (bK m):=(Rr h t).imp λσ H Q q=>by
 obtain⟨ρ,O,F,C,d,L,r,sl,e,k⟩:=q;obtain⟨d,J,y,e⟩:=Res.bind_ok e;split at e
 ·rename_i c u;cases e;exact⟨ρ,_,F,C,_,_,r,sl,y,λv E G I x f j=>⟨_,Lk.tru (Sv.lk j f) f.fh u,k E G _ x f⟩⟩
 ·cases e
noncomputable def cV(a b:M Bool):M Bool:=λρ O=>(a ρ O).bind λc d=>if c=true then b ρ d else .ok false d
noncomputable def cC(a b:M Bool):M Bool:=λρ O=>(a ρ O).bind λc d=>if c=true then .ok true d else b ρ d
noncomputable def dB(a:M Bool):M Bool:=λρ O=>(a ρ O).bind λc d=>.ok (!c) d
def Vm{K:Frag}      (h:tMT K mg md P (cV ma mb) σ H Q):CP (tMT K mg md P ma) (tMT K mg md P mb) σ H Q:=by
 obtain⟨ρ,O,F,C,d,T,r,sl,e,k⟩:=h;obtain⟨c,L,y,e⟩:=Res.bind_ok e;refine⟨ρ,_,F,C,_,_,r,sl,y,λG t j f m=>?_⟩
 cases c with
 |true =>
  exact⟨ρ,_,t,j,_,_,m,sl.step f,e,λE I J x u=>k E I _ (f.trans x) u⟩
 |false =>
  cases e;exact k G t _ f m
def Vn{K:Frag}      (h:tMT K mg md P (cC ma mb) σ H Q):tOr (tMT K mg md P ma) (tMT K mg md P mb) σ H Q:=by
 obtain⟨ρ,O,F,C,d,T,r,sl,e,k⟩:=h;obtain⟨c,L,y,e⟩:=Res.bind_ok e;refine⟨ρ,_,F,C,_,_,r,sl,y,λG t j f m=>?_⟩
 cases c with
 |true =>
  cases e;exact k G t _ f m
 |false =>
  exact⟨ρ,_,t,j,_,_,m,sl.step f,e,λE I J x u=>k E I _ (f.trans x) u⟩
def Vo    (h:TsE X md P a m):TwE X md P (.BoolOp .And [a] d) m:=P0 h
def Vp    (h:TsE X md P a m):TwE X md P (.BoolOp .Or [a] d) m:=Qa h
def Vq  {rest:List Expr}   (d:TsE X md P a ma)(hb:TwE X md P (.BoolOp .And (b::rest) f) mb):TwE X md P (.BoolOp .And (a::b::rest) f) (cV ma mb):=(Qc d hb).imp λ_ _ _=>Vm
def Vr  {rest:List Expr}   (d:TsE X md P a ma)(hb:TwE X md P (.BoolOp .Or (b::rest) f) mb):TwE X md P (.BoolOp .Or (a::b::rest) f) (cC ma mb):=(Qd d hb).imp λ_ _ _=>Vn
def Vs   (h:TwE X md P e m):TsE X md P e m:=PW.pt h
def Vt    (h:TsE X md P a m):TsE X md P (.UnaryOp .Not a x) (dB m):=(Qe h).imp λσ H Q q=>by
 obtain⟨ρ,O,F,j,d,u,r,sl,e,k⟩:=q;obtain⟨c,t,f,e⟩:=Res.bind_ok e;cases e;exact⟨ρ,_,F,j,_,_,r,sl,f,k⟩
noncomputable def gj(ma mb:M D):M D:=λρ O=>(ma ρ O).bind λd f=>match d with
 | .bl true=>mb ρ f
 | .bl false=>.ok (.bl false) f
 | _=>.no
noncomputable def Vu(ma mb:M D):M D:=λρ O=>(ma ρ O).bind λd f=>match d with
 | .bl true=>.ok (.bl true) f
 | .bl false=>mb ρ f
 | _=>.no
noncomputable def wU(ma:M D):M D:=λρ O=>(ma ρ O).bind λd f=>match d with
 | .bl b=>.ok (.bl (!b)) f
 | _=>.no
def Vv     (h:VE X md P a m):VE X md P (.BoolOp op [a] d) m:=Qh h
theorem Vw  {rest:List Expr}   (G:VE X md P a ma)(hb:VE X md P (.BoolOp .And (b::rest) pos) mb):VE X md P (.BoolOp .And (a::b::rest) pos) (gj ma mb):=(Qi G hb).imp λσ H Q q=>by
 obtain⟨ρ,O,F,L,d,O',r,sl,e,k⟩:=q;obtain⟨x,Z,J,e⟩:=Res.bind_ok e;refine⟨ρ,_,F,L,_,_,r,sl,J,λv U u m f t E=>?_⟩
 cases x with
 |bl c =>
  refine⟨c,Rp.unB E,?_⟩
  cases c with
  |true =>
   exact⟨ρ,_,u,m,_,_,t,sl.step f,e,λy T W Y I C j=>k y T W _ (f.trans I) C j⟩
  |false =>
   cases e;exact k _ U u _ f t Rp.bl
 | _=>cases e
theorem Vx    (h:VE X md P a m):VE X md P (.UnaryOp .Not a pos) (wU m):=(Qj h).imp λσ H Q q=>by
 obtain⟨ρ,O,F,y,d,J,r,sl,e,k⟩:=q;obtain⟨x,I,u,e⟩:=Res.bind_ok e;refine⟨ρ,_,F,y,_,_,r,sl,u,λv C E G t f j=>?_⟩
 cases x with
 |bl c =>
  cases e;exact⟨c,Rp.unB j,k _ C E _ t f Rp.bl⟩
 | _=>cases e
noncomputable def mIf(t:M Bool)(a b:M D):M D:=λρ O=>(t ρ O).bind λc d=>if c=true then a ρ d else b ρ d
theorem Vy(G:d7 R)     (E:TsE X md P c mc)(f:PE X a (tM X.K X.mg md P R ma))(hb:PE X b (tM X.K X.mg md P R mb)):PE X (.IfExp c a b pos) (tM X.K X.mg md P R (mIf mc ma mb)):=(CQ E f hb).imp λσ H Q q=>by
 obtain⟨ρ,O,F,L,d,O',r,sl,e,k⟩:=q;obtain⟨x,Z,J,e⟩:=Res.bind_ok e;refine⟨ρ,_,F,L,_,_,r,sl,J,λH1 W t j C=>?_⟩
 cases x with
 | true
 |false =>
  exact⟨ρ,_,W,t,_,_,C,sl.step j,e,λu T U Y I y m=>k u T U _ (j.trans I) y (G _ _ _ _ _ _ _ (λa f=>j.dm a f) m)⟩
def Vz     (d:TsE X md P c j)(f:VE X md P a ma)(hb:VE X md P b mb):VE X md P (.IfExp c a b m) (mIf j ma mb):=Vy jy d f hb
end
def SlO.set{K:Frag}     (s:SlO K md P ρ σ H F X)(E:md[i]?=some m)(O:m≠.s)(hv:gM P K H F X m v d)
  (Q:∀(a:Addr) (ds:List D) (j:Nat) (es:List D),m=.o->v=.ref a->d=.lst ds->i≠j->md[j]?=some .o->ρ[j]?=some (some (.lst es))->σ[j]?≠some (some (.ref a))):SlO K md P (ρ.set i (some d)) (σ.set i (some v)) H F X:=by
 have u:i<md.length:=(zu.mp E).1;refine⟨by rw[jb];exact s.len,by rw[jb];exact s.len',s.pd,λj U W L I=>?_,λj k a ds es h1 h2 h3 h4 C y=>?_,λx hx=>?_⟩
 ·by_cases h:i=j
  ·subst h;rw[E] at L;cases L;rw[zQ (by rw[s.len'];exact u)] at I;cases I;exact⟨v,zQ (by rw[s.len];exact u),hv⟩
  ·rw[zj h] at I;rw[zj h];exact s.sl j U W L I
 ·by_cases t:i=j
  ·by_cases f:i=k
   ·rw[<-t,<-f]
   ·exfalso
    subst t;rw[E] at h1;cases h1;rw[zQ (by rw[s.len'];exact u)] at h3;rw[zQ (by rw[s.len];exact u)] at C;rw[zj f] at h4 y;cases h3;cases C;exact Q a ds k es rfl rfl rfl f h2 h4 y
  ·by_cases f:i=k
   ·exfalso
    subst f;rw[E] at h2;cases h2;rw[zQ (by rw[s.len'];exact u)] at h4;rw[zQ (by rw[s.len];exact u)] at y;rw[zj t] at h3 C;cases h4;cases y;exact Q a es j ds rfl rfl rfl t h1 h3 C
   ·rw[zj t] at h3 C;rw[zj f] at h4 y;exact s.inj j k a ds es h1 h2 h3 h4 C y
 ·obtain⟨J,T,R⟩:=s.pin x hx
  have G:i≠x.1:=λz=>by
   rw[<-z,E] at J;exact O (zE J)
  exact⟨J,by rw[zj G];exact T,by rw[zj G];exact R⟩
def SlO.setV{K:Frag}    (s:SlO K md P ρ σ H F j)(f:md[i]?=some .v)(hv:Rp K F j v d):SlO K md P (ρ.set i (some d)) (σ.set i (some v)) H F j :=
 s.set f (by decide) hv λ_ _ _ _ z=>nomatch z
def SlO.setN{K:Frag}    (s:SlO K md P ρ σ H F m)(j:md[i]?=some .o)(f:iu d=true)(hv:Rp K F m v d):SlO K md P (ρ.set i (some d)) (σ.set i (some v)) H F m :=
 s.set j (by decide) (.inl ⟨f,hv⟩) λ_ _ _ _ _ _ z=>by subst z;cases f
def SlO.setO{K:Frag}     (s:SlO K md P ρ σ Z F as)(g:Gr Z F as H' F' Y)(m:md[i]?=some .o)(hv:Ow K (λa=>Z a=none) H' F' Y v d):SlO K md P (ρ.set i (some d)) (σ.set i (some v)) H' F' Y:=by
 have s':=s.step g
 rcases hv with⟨y,hv⟩ | ⟨a,x,Q,rfl,rfl,O,L,J,t,I⟩
 ·exact s'.setN m y hv
 ·refine s'.set m (by decide) (.inr ⟨a,x,Q,rfl,rfl,O,L,J,λp=>s.pd a p t,I⟩) λb U j W _ G hd T C E hs=>?_
  cases G;obtain⟨v,h1,h2⟩:=s.sl j .o _ C E;rw[hs] at h1;cases h1
  rcases h2 with⟨h2,_⟩ | ⟨X,R,_,u,_,f,_⟩
  ·cases h2
  ·cases u;rw[t] at f;cases f
section
variable {X:Cx}{md:List Md}{P:Pt}{R:RR}
noncomputable def aM:MS:=λρ O=>.nx ρ O
noncomputable def aq(a b:MS):MS:=λρ O=>match a ρ O with
 | .nx ρ' O'=>b ρ' O'
 |r=>r
def VB:VSs X md P R [] aM:=Qn.imp λD σ H q=>by
 obtain⟨ρ,O,F,d,r,s,k⟩:=q;exact k σ H F d GrS.refl r s
def lQ{K:Frag}  {D:Ends}   (g:GrS P H F as H1 F1 as1)  (k:jz K mg md P R D H F as f):jz K mg md P R D H1 F1 as1 f:=by
 cases f with
 | nx
 | bk
 | ct
 |rt =>exact λt j m u d=>k _ j m _ (g.trans d)
 | ex
 |no=>exact k
theorem VD{st:Stmt}{rest:List Stmt}  (h1:VS X md P R st a)(h2:VSs X md P R rest b):VSs X md P R (st::rest) (aq a b):=(Qo h1 h2).imp λD σ H q=>by
 obtain⟨ρ,O,F,m,r,s,k⟩:=q;refine⟨ρ,O,F,m,r,s,?_⟩;unfold aq at k
 cases e:a ρ O with
 |nx ρ' O' =>
  rw[e] at k
  exact λu x t d g j f=>⟨ρ',O',t,d,j,f,lQ g k⟩
 | bk
 | ct
 | rt
 | ex
 |no=>rw[e] at k;exact k
def VF{st:Stmt}  (h1:VS X md P R st a):VSs X md P R [st] a:=Qp h1
noncomputable def gO:MS:=λ_ _=>.no
def VH{st:Stmt}:VS X md P R st gO:=Qw.imp λD σ H q=>by
 obtain⟨ρ,O,F,d,r,s,k⟩:=q;exact False.elim k
noncomputable def dJ(m:M D):MS:=λρ O=>match m ρ O with
 | .ok _ O'=>.nx ρ O'
 | .ex x O'=>.ex x O'
 | .no=>.no
def VJ    (h:SE X md P e m)(hs:swapsWith e none pos.line X.env=pure false:=by rfl):VS X md P R (.Expr e pos) (dJ m):=(m9 h hs).imp λD σ H q=>by
 obtain⟨ρ,O,F,d,r,s,k⟩:=q;unfold dJ at k
 cases e:m ρ O with
 |ok  =>
  rw[e] at k;exact⟨ρ,_,F,d,_,_,r,s,e,λv H' F' as' g r' _=>k σ H' F' _ g.toS r' (s.step g)⟩
 | ex
 |no=>rw[e] at k;exact False.elim k
noncomputable def aA(m:M D):MS:=λρ O=>match m ρ O with
 | .ok d O'=>.rt d O'
 | .ex x O'=>.ex x O'
 | .no=>.no
theorem Fd(t:d7 R)    (h:PE X e (tM X.K X.mg md P R m)):VS X md P R (.Return (some e) pos) (aA m):=(vR h).imp λD σ H q=>by
 obtain⟨ρ,O,F,u,r,s,k⟩:=q;unfold aA at k
 cases e:m ρ O with
 |ok  =>
  rw[e] at k;exact⟨ρ,_,F,u,_,_,r,s,e,λv x y C g d f=>k v x y _ g.toS d (t _ _ _ _ _ _ _ (λa j p=>s.pd a p j) f)⟩
 | ex
 |no=>rw[e] at k;exact False.elim k
def VL    (h:VE X md P e m):VS X md P (rV X.K) (.Return (some e) d) (aA m):=Fd jy h
def VM    (h:OE X md P e m):VS X md P (rO X.K) (.Return (some e) d) (aA m):=Fd fD h
def VN{X:Cx}{P:Pt}(i:Nat){x:Str}{p j:Pos}(y:md[i]?=some .o:=by rfl)(hN:X.N[i]?=some x:=by rfl)(u:Vis X.env.scope x:=by first | exact Or.inl rfl | exact Or.inr (Or.inl rfl) | exact Or.inr (Or.inr rfl))
  (hd:(x == ("__debug__":Str))=false:=by decide) (m:(x == ("__classdict__":Str))=false:=by decide):VS X md P (rO X.K) (.Return (some (.Name x p)) j) (aA (aa i)):=(vR (jY (i:=i) hN u hd m)).imp λD σ H q=>by
 obtain⟨ρ,O,F,T,r,s,k⟩:=q;unfold aA at k
 cases e:aa i ρ O with
 |ok d U =>
  rw[e] at k;obtain⟨f,rfl⟩:=pR e;obtain⟨v,h1,h2⟩:=s.sl i .o d y f;refine⟨v,h1,k v H F T GrS.refl r ?_⟩
  rcases h2 with h2 | ⟨a,t,Q,f,J,I,L,G,E,C⟩
  ·exact .inl h2
  ·exact .inr ⟨a,t,Q,f,J,I,L,G,E,C⟩
 |ex x U=>rw[e] at k;exact False.elim k
 |no=>rw[e] at k;exact False.elim k
noncomputable def aJ(t:M Bool)(a b:MS):MS:=λρ O=>match t ρ O with
 | .ok c O'=>if c=true then a ρ O' else b ρ O'
 | .ex x O'=>.ex x O'
 | .no=>.no
theorem VP      (j:TsE X md P c t)(m:VSs X md P R a ma)(hb:VSs X md P R b mb):VS X md P R (.If c a b pos) (aJ t ma mb):=(Qu j m hb).imp λD σ H q=>by
 obtain⟨ρ,O,F,u,r,s,k⟩:=q;unfold aJ at k
 cases e:t ρ O with
 |ok c O' =>
  rw[e] at k;refine⟨ρ,_,F,u,_,_,r,s,e,λy x d g f=>?_⟩
  cases c with
  | true
  |false =>
   exact⟨ρ,O',x,d,f,s.step g,lQ g.toS k⟩
 | ex
 |no=>rw[e] at k;exact False.elim k
noncomputable def aB(i:Nat)(m:M D):MS:=λρ O=>match m ρ O with
 | .ok d O'=>.nx (ρ.set i (some d)) O'
 | .ex x O'=>.ex x O'
 | .no=>.no
def Fe{K:Frag}     (u:md[i]?=some .v)(j:∀σ H Q,tM K mg md P (rV K) m σ H Q->t σ H Q){D:Ends}   (q:tMS K mg md P R (aB i m) D σ H):pI t (pH i) D σ H:=by
 obtain⟨ρ,O,F,x,r,s,k⟩:=q;unfold aB at k
 cases e:m ρ O with
 |ok  =>
  rw[e] at k;exact j _ _ _ ⟨ρ,_,F,x,_,_,r,s,e,λv y C E g d f=>k _ y C _ g.toS d ((s.step g).setV u f)⟩
 | ex
 |no=>rw[e] at k;exact False.elim k
def Ff{K:Frag}     (u:md[i]?=some .o)(j:∀σ H Q,tM K mg md P (rO K) m σ H Q->t σ H Q){D:Ends}   (q:tMS K mg md P R (aB i m) D σ H):pI t (pH i) D σ H:=by
 obtain⟨ρ,O,F,x,r,s,k⟩:=q;unfold aB at k
 cases e:m ρ O with
 |ok  =>
  rw[e] at k;exact j _ _ _ ⟨ρ,_,F,x,_,_,r,s,e,λv y C E g d f=>k _ y C _ g.toS d (s.setO g u f)⟩
 | ex
 |no=>rw[e] at k;exact False.elim k
def VR{R:RR}    {d pos':Pos}  (hN:X.N.Nodup)(j:X.N[i]?=some x)(hx:Loc X.env.scope x)(h:VE X md P e m)(f:md[i]?=some .v:=by rfl)(hs:swapsWith e (some (.Name x pos')) d.line X.env=pure false:=by rfl)
  (t:X.fn x=true\/X.env.scope.names.lookup x=some .local:=by first | exact .inl rfl | exact .inr rfl | assumption):VS X md P R (.Assign [.Name x pos'] e d) (aB i m):=(CT hN j hx h hs).imp λD σ H q=>Fe f (λ_ _ _ z=>z) q
def V0{R:RR}    {d pos':Pos}  (hN:X.N.Nodup)(j:X.N[i]?=some x)(hx:Loc X.env.scope x)(h:OE X md P e m)(f:md[i]?=some .o:=by rfl)(hs:swapsWith e (some (.Name x pos')) d.line X.env=pure false:=by rfl)
  (t:X.fn x=true\/X.env.scope.names.lookup x=some .local:=by first | exact .inl rfl | exact .inr rfl | assumption):VS X md P R (.Assign [.Name x pos'] e d) (aB i m):=(CT hN j hx h hs).imp λD σ H q=>Ff f (λ_ _ _ z=>z) q
abbrev MG:=D->aK->Option aK
inductive tMG (K:Frag) (mg:Str->Option Value) (md:List Md) (P:Pt) (g:MG) (v:V) (σ:St) (H:Hp) (Q:(St->Hp->Prop)):Prop
 | mk:∀ρ O F as d ρ',RlO K mg O H F as->SlO K md P ρ σ H F as->Rp K F as v d->g d ρ=some ρ'->(∀σ',SlO K md P ρ' σ' H F as->Q σ' H)->tMG K mg md P g v σ H Q
inductive Fg (K:Frag) (mg:Str->Option Value) (md:List Md) (P:Pt) (g:List D->aK->Option aK) (vs:List V) (σ:St) (H:Hp) (Q:(St->Hp->Prop)):Prop
 | mk:∀ρ O F as ds ρ',RlO K mg O H F as->SlO K md P ρ σ H F as->Rps K F as vs ds->g ds ρ=some ρ'->(∀σ',SlO K md P ρ' σ' H F as->Q σ' H)->Fg K mg md P g vs σ H Q
def VG(X:Cx)(md:List Md)(P:Pt)(d:Expr)(g:MG):Prop:=PG X d (tMG X.K X.mg md P g)
def VGs(X:Cx)(md:List Md)(P:Pt)(d:List Expr)(g:List D->aK->Option aK):Prop:=PGs X d (Fg X.K X.mg md P g)
def PG.imp   (h:PG X e t)(k:∀v σ H Q,t' v σ H Q->t v σ H Q):PG X e t':=λpins s σ H v u Q I r q=>h pins s σ H v u Q I r (k v σ H Q q)
def PGs.imp   (h:PGs X e t)(k:∀v σ H Q,t' v σ H Q->t v σ H Q):PGs X e t':=λpins s σ H v u Q I r q=>h pins s σ H v u Q I r (k v σ H Q q)
noncomputable def mgN(i:Nat):MG:=λd ρ=>some (ρ.set i (some d))
def V1{X:Cx}{P:Pt}   {f:Pos}(hN:X.N.Nodup)(t:X.N[i]?=some x)(hx:Loc X.env.scope x)(m:md[i]?=some .v:=by rfl)(y:X.fn x=true\/X.env.scope.names.lookup x=some .local:=by first | exact .inl rfl | exact .inr rfl | assumption):VG X md P (.Name x f) (mgN i):=
 (Qx hN t hx).imp λv σ H Q q=>by
  obtain⟨ρ,O,F,C,d,u,r,s,j,e,k⟩:=q;cases e;exact k _ (s.setV m j)
noncomputable def dC:List D->aK->Option aK:=λd ρ=>match d with
 | []=>some ρ
 | _=>none
noncomputable def bB(g:MG)(r:List D->aK->Option aK):List D->aK->Option aK:=λf ρ=>match f with
 |d::f=>(g d ρ).bind λj=>r f j
 | []=>none
theorem V2:VGs X md P [] dC:=QB.imp λv σ H Q q=>by
 obtain⟨ρ,O,F,m,f,j,r,s,d,e,k⟩:=q
 cases f with
 |nil=>cases e;exact⟨d.un0,k _ s⟩
 |cons =>cases e
def V3     (h1:VG X md P e g)(h2:VGs X md P es r)(hs:(assignEach (e::es) X.env).map (·.2)=assign e X.env::(assignEach es X.env).map (·.2):=by rfl):VGs X md P (e::es) (bB g r):=
 (QC h1 h2 hs).imp λv σ H Q q=>by
  obtain⟨ρ,O,F,t,f,j,m,s,C,e,k⟩:=q
  cases f with
  |nil=>cases e
  |cons d f =>
   obtain⟨x,y,rfl,hx,E⟩:=C.un;unfold bB at e
   dsimp  at e
   cases e1:g d ρ with
   |none=>rw[e1] at e;cases e
   |some ρ1 =>
    rw[e1] at e;exact⟨x,y,rfl,ρ,O,F,t,d,ρ1,m,s,hx,e1,λG u=>⟨ρ1,O,F,t,f,j,m,u,E,e,k⟩⟩
noncomputable def cW(n:Nat)(r:List D->aK->Option aK):MG:=λd ρ=>match d with
 | .tup ds=>if ds.length=n then r ds ρ else none
 | _=>none
def V4  {j:Pos}{k:Nat}  (n:Nat)(E:X.calm=true)(h:VGs X md P es r)(y:(assignEach es X.env).length=n:=by rfl)(m:(assignEach es X.env).findIdx? (·.1)=none:=by rfl):VG X md P (.Tuple es k j) (cW n r):=
 (QF E h y m).imp λv σ H Q q=>by
  obtain⟨ρ,O,F,G,d,f,t,s,x,e,k⟩:=q
  cases d with
  |tup ds =>
   obtain⟨a,u,rfl,h1,h2⟩:=x.unT;unfold cW at e
   dsimp  at e
   split at e
   ·rename_i C;exact⟨a,u,rfl,Same.seqT t.fh h1,by rw[h2.length];exact C,ρ,O,F,G,ds,f,t,s,h2,e,k⟩
   ·cases e
  | _=>cases e
noncomputable def pY(m:M D)(g:MG):MS:=λρ O=>match m ρ O with
 | .ok d O'=>match g d ρ with
  |some f=>.nx f O'
  |none=>.no
 | .ex x O'=>.ex x O'
 | .no=>.no
def V5{R:RR}  {f:Pos}   (h:VE X md P e m)(G:VG X md P tg g)(hs:swapsWithSole [tg] e f.line X.env=pure false:=by rfl)(C:swappedStores [tg] e X.env=pure none:=by rfl)
  (h1:(assignEach [tg] X.env).map (·.2)=[assign tg X.env]:=by rfl):VS X md P R (.Assign [tg] e f) (pY m g):=(QG h G hs C h1).imp λD σ H q=>by
 obtain⟨ρ,O,F,I,r,s,k⟩:=q;unfold pY at k
 cases e:m ρ O with
 |ok d O' =>
  rw[e] at k
  dsimp  at k
  cases e2:g d ρ with
  |none=>rw[e2] at k;exact False.elim k
  |some ρ' =>
   rw[e2] at k;refine⟨ρ,_,F,I,_,_,r,s,e,λv J x j u t E=>?_⟩;exact⟨ρ,O',x,j,d,ρ',t,s.step u,E,e2,λL y=>k _ J x _ u.toS t y⟩
 | ex
 |no=>rw[e] at k;exact False.elim k
end
structure lR(K:Frag)(mg:Str->Option Value)(P:Pt)(J:It)(ds:List D)(H F:Hp)(as:List Addr):Prop where
 turn:∀(i:Nat) (d:D) (H2 F2:Hp) (as2:List Addr),GrS P H F as H2 F2 as2->(∃O,RlO K mg O H2 F2 as2)->ds[i]?=some d->J.go i H2/\∀x H3,J.yld i H2 x H3->∃F3,Gr H2 F2 as2 H3 F3 as2/\(∀O,RlO K mg O H2 F2 as2->RlO K mg O H3 F3 as2)/\Rp K F3 as2 x d
 stop:∀(H2 F2:Hp) (as2:List Addr),GrS P H F as H2 F2 as2->(∃O,RlO K mg O H2 F2 as2)->J.stop ds.length H2
structure Fi(K:Frag)(mg:Str->Option Value)(J:It)(ds:List D)(H F:Hp)(as:List Addr):Prop where
 turn:∀(i:Nat) (d:D) (H2 F2:Hp) (as2:List Addr),Gr H F as H2 F2 as2->(∃O,RlO K mg O H2 F2 as2)->ds[i]?=some d->J.go i H2/\∀x H3,J.yld i H2 x H3->∃F3,Gr H2 F2 as2 H3 F3 as2/\(∀O,RlO K mg O H2 F2 as2->RlO K mg O H3 F3 as2)/\Rp K F3 as2 x d
 stop:∀(H2 F2:Hp) (as2:List Addr),Gr H F as H2 F2 as2->(∃O,RlO K mg O H2 F2 as2)->J.stop ds.length H2
def lR.e{K:Frag}       (h:lR K mg P J ds H F t):Fi K mg J ds H F t:=⟨λi d j m f g=>h.turn i d j m f g.toS,λj m f g=>h.stop j m f g.toS⟩
inductive wV (K:Frag) (mg:Str->Option Value) (md:List Md) (P:Pt) (m:M (List D)) (σ:St) (H:Hp) (Q:(It->Hp->Prop)):Prop
 | mk:∀ρ O F as ds O',RlO K mg O H F as->SlO K md P ρ σ H F as->m ρ O=.ok ds O'->(∀J H' F' as',Gr H F as H' F' as'->RlO K mg O' H' F' as'->Fi K mg J ds H' F' as'->Q J H')->wV K mg md P m σ H Q
def VIc(X:Cx)(md:List Md)(P:Pt)(d iter:Expr)(m:M (List D)):Prop:=PI X d iter (wV X.K X.mg md P m)
inductive tMI (K:Frag) (mg:Str->Option Value) (md:List Md) (P:Pt) (m:M (List D)) (σ:St) (H:Hp) (Q:(It->Hp->Prop)):Prop
 | mk:∀ρ O F as ds O',RlO K mg O H F as->SlO K md P ρ σ H F as->m ρ O=.ok ds O'->(∀J H' F' as',Gr H F as H' F' as'->RlO K mg O' H' F' as'->lR K mg P J ds H' F' as'->Q J H')->tMI K mg md P m σ H Q
def VI(X:Cx)(md:List Md)(P:Pt)(d iter:Expr)(m:M (List D)):Prop:=PI X d iter (tMI X.K X.mg md P m)
def PI.imp   (h:PI X d e t)(k:∀σ H Q,t' σ H Q->t σ H Q):PI X d e t':=λpins s σ H Q I q=>h pins s σ H Q I (k σ H Q q)
def wW   (h:VI X md P E e m):VIc X md P E e m:=h.imp λσ H Q q=>by
 obtain⟨ρ,O,F,t,j,u,r,s,e,k⟩:=q;exact⟨ρ,O,F,t,j,u,r,s,e,λJ x y C g d f=>k J x y _ g d f.e⟩
noncomputable def bj(g:MG)(b:MS):List D->MS
 | [],ρ,O=>.nx ρ O
 |d::ds,ρ,O=>match g d ρ with
  |none=>.no
  |some f=>match b f O with
   | .nx ρ2 O2=>bj g b ds ρ2 O2
   | .ct ρ2 O2=>bj g b ds ρ2 O2
   | .bk ρ2 O2=>.nx ρ2 O2
   |r=>r
def bW(m:M (List D))(g:MG)(b:MS):MS:=λρ O=>match m ρ O with
 | .ok ds O'=>bj g b ds ρ O'
 | .ex x O'=>.ex x O'
 | .no=>.no
def V6{K:Frag}     {D:Ends}   (q:tMS K mg md P R (bW m g b) D σ H):CZ (tMI K mg md P m) (tMG K mg md P g) (tMS K mg md P R b) D σ H:=by
 obtain⟨ρ,O,F,as,r,s,k⟩:=q;unfold bW at k
 cases e:m ρ O with
 | ex
 |no=>rw[e] at k;exact False.elim k
 |ok ds O1 =>
  rw[e] at k;refine⟨ρ,_,F,as,_,_,r,s,e,λJ H1 F1 as1 g1 r1 hJ=>?_⟩;have k1:=lQ g1.toS k;refine⟨λi m U C=>m=ds.length - i/\i<=ds.length/\∃t j G d,GrS P H1 F1 _ C G d/\RlO K mg j C G d/\SlO K md P t U C G d/\jz K mg md P R D C G d (bj g b (ds.drop i) t j),⟨ds.length,by simp,Nat.zero_le _,ρ,O1,F1,as1,GrS.refl,r1,s.step g1,by exact k1⟩,?_⟩;rintro i n U C ⟨rfl,hi,t,j,G,d,g',r',s',k'⟩
  by_cases L:i<ds.length
  ·have hd:=zt L;obtain⟨go,yl⟩:=hJ.turn i _ C G _ g' ⟨j,r'⟩ hd;rw[List.drop_eq_getElem_cons L] at k';refine .inr ⟨go,λT u=>∃I Y E Q,GrS P H1 F1 _ u E _/\RlO K mg Y u E _/\SlO K md P _ _ u E _/\jz K mg md P R D u E _ _,λT u h2=>⟨ds.length - (i+1),by omega,rfl,L,h2⟩,λx H3 y=>?_⟩;obtain⟨F3,W,r3,hx⟩:=yl x H3 y;have r3':=r3 j r';unfold bj at k'
   cases eg:g _ _ with
   |none=>rw[eg] at k';exact False.elim k'
   |some ρ1 =>
    rw[eg] at k'
    dsimp  at k'
    refine⟨t,j,F3,d,ds[i],ρ1,r3',s'.step W,hx,eg,λσ4 s4=>?_⟩;refine⟨ρ1,j,F3,d,r3',s4,?_⟩;have g4 :=g'.trans W.toS
    have keep:=λ{f}=>lQ (K:=K) (mg:=mg) (md:=md) (R:=R) (D:=D) (f:=f) W.toS (P:=P)
    cases eb:b _ j with
    | nx I Y
    |ct I Y =>
     rw[eb] at k'
     exact λT u E Q X r2 Z=>⟨I,Y,E,Q,g4.trans X,r2,Z,lQ X (keep k')⟩
    | bk
    |rt  =>
     rw[eb] at k'
     exact λv u E Q X r2 Z=>k' v u E _ (W.toS.trans X) r2 Z
    | ex
    |no=>rw[eb] at k';exact False.elim k'
  ·have hi':i=ds.length:=by omega
   subst hi';refine .inl ⟨hJ.stop C G _ g' ⟨j,r'⟩,?_⟩;rw[List.drop_length] at k';exact k' _ C G _ GrS.refl r' s'
def V7   {d:Pos}    (u:X.calm=true)(j:VI X md P C y m)(t:VG X md P C g)(hb:VSs X md P R body b)(f:PassesOwn (model X.prog X.w) X.A X.env X.xe:=by exact PassesOwn.never)
  (hs:∀x,foldedSetIterable y X.env x=pure x:=by intro _;rfl):VS X md P R (.For C y body [] d) (bW m g b):=(QW f u j t hb hs).imp λ_ _ _ q=>V6 q
noncomputable def dD(t:M Bool)(b:MS):Nat->MS
 | 0,_,_=>.no
 |n+1,ρ,O=>match t ρ O with
  | .ok true O1=>match b ρ O1 with
   | .nx ρ2 O2=>dD t b n ρ2 O2
   | .ct ρ2 O2=>dD t b n ρ2 O2
   | .bk ρ2 O2=>.nx ρ2 O2
   |r=>r
  | .ok false O1=>.nx ρ O1
  | .ex x O'=>.ex x O'
  | .no=>.no
def kj(n:Nat)(t:M Bool)(b:MS):MS:=dD t b n
def V8{K:Frag}     {D:Ends}   (q:tMS K mg md P R (kj n t b) D σ H):CV (tMT K mg md P t) (tMS K mg md P R b) D σ H:=by
 refine⟨λn d x=>tMS K mg md P R (dD t b n) D d x,⟨n,q⟩,?_⟩;rintro m σ1 H1 ⟨ρ,O,F,as,r,s,k⟩
 cases m with
 |zero=>exact False.elim k
 |succ m =>
  unfold dD at k
  cases e:t ρ O with
  | ex
  |no=>rw[e] at k;exact False.elim k
  |ok c O1 =>
   rw[e] at k;refine⟨ρ,_,F,as,_,_,r,s,e,λW T J j L=>?_⟩
   cases c with
   |false =>
    exact k _ W T _ j.toS L (s.step j)
   |true =>
    refine⟨λd x=>tMS K mg md P R _ D _ x,λd x U=>⟨m,jd m,U⟩,ρ,O1,T,J,L,s.step j,?_⟩
    dsimp  at k
    have keep:=λ{f}=>lQ (K:=K) (mg:=mg) (md:=md) (R:=R) (D:=D) (f:=f) j.toS (P:=P)
    cases eb:b ρ O1 with
    | nx ρ2 O2
    |ct ρ2 O2 =>
     rw[eb] at k
     exact λI Q G u E C y=>⟨ρ2,O2,G,u,C,y,lQ E (keep k)⟩
    | bk
    |rt  =>
     rw[eb] at k
     exact λI Q G u E C y=>k _ Q G _ (j.toS.trans E) C y
    | ex
    |no=>rw[eb] at k;exact False.elim k
def Fj(n:Nat)      (f:TsE X md P c t)(hb:VSs X md P R body b)(d:PassesOwn (model X.prog X.w) X.A X.env X.xe:=by exact PassesOwn.never):VS X md P R (.While c body [] pos) (kj n t b):=
 (QH d f hb).imp λ_ _ _ q=>V8 q
noncomputable def b7(g:MG)(t:M Bool)(m:M D):List D->aK->au->List D->Res (List D)
 | [],ρ,O,acc=>.ok acc O
 |d::ds,ρ,O,acc=>match g d ρ with
  |none=>.no
  |some f=>match t f O with
   | .ok true O1=>match m f O1 with
    | .ok y O2=>b7 g t m ds f O2 (acc++[y])
    | .ex x O'=>.ex x O'
    | .no=>.no
   | .ok false O1=>b7 g t m ds f O1 acc
   | .ex x O'=>.ex x O'
   | .no=>.no
def dM(own:Nat)(cap:List Nat)(ρ:aK):aK:=List.replicate own none++cap.map λj=>(ρ[j]?).join
def bO(m:M (List D))(own:Nat)(cap:List Nat)(g:MG)(t:M Bool)(e:M D):M D:=λρ O=>(m ρ O).bind λd u=>if d.length<=1000000 then(b7 g t e d (dM own cap ρ) u []).bind λf j=>.ok (.lst f) j else .no
noncomputable def bV:M Bool:=λ_ O=>.ok true O
def cMd(own:Nat)(cap:List Nat)(md:List Md):List Md:=List.replicate own .v++cap.map λj=>match md[j]? with
 |some .v=>.v
 | _=>.s
def Fo{K:Frag}       (s:SlO K md P ρ σ H F R)(I:∀j∈cap,j<md.length):SlO K (cMd own.length cap md) (Pt.all H) (dM own.length cap ρ) (compSt own cap σ) H F R:=by
 refine⟨by simp[compSt,cMd],by simp[dM,cMd],λa h=>h,λi m d t f=>?_,λi j a y O h1=>?_,λ_ z=>nomatch z⟩
 ·unfold dM at f;unfold cMd at t;unfold compSt
  by_cases u:i<own.length
  ·rw[zF (by simpa using u),List.getElem?_replicate_of_lt u] at f;cases f
  ·have hi':own.length<=i:=Nat.le_of_not_lt u;rw[zL (by simpa using hi'),List.length_replicate,zC] at f t;rw[zL (by simpa using hi'),zf,zC]
   cases q:cap[i - own.length]? with
   |none=>rw[q] at f;cases f
   |some j =>
    rw[q] at t f;simp only[Option.map_some,Option.some.injEq] at t f ⊢
    cases q2:ρ[j]? with
    |none=>rw[q2] at f;cases f
    |some o =>
     rw[q2] at f;have e2':o=some d:=f;subst e2';obtain⟨J,v,h1,h2,h3⟩:=s.get q2;rw[h1] at t;refine⟨v,by rw[h2];rfl,?_⟩
     cases J with
     |v=>dsimp only at t;subst t;exact h3
     |s =>
      dsimp only at t;subst t
      rcases h3 with h3 | ⟨a,C,y,t,f,x,G,L,E⟩
      ·exact .inl h3
      ·exact .inr ⟨a,C,y,t,f,x,G,(show H a≠none by rw[x];exact λz=>nomatch z),E⟩
     |o =>
      dsimp only at t;subst t
      rcases h3 with⟨_,h3⟩ | ⟨a,C,y,t,f,x,Q,G,L,E⟩
      ·exact .inl h3
      ·exact .inr ⟨a,C,y,t,f,x,G,(show H a≠none by rw[x];exact λz=>nomatch z),E⟩
 ·exfalso
  unfold cMd at h1
  by_cases u:i<own.length
  ·rw[zF (by simpa using u),List.getElem?_replicate_of_lt u] at h1;cases h1
  ·have hi':own.length<=i:=Nat.le_of_not_lt u;rw[zL (by simpa using hi'),List.length_replicate,zC] at h1
   cases q:cap[i - own.length]? with
   |none=>rw[q] at h1;cases h1
   |some j =>
    rw[q] at h1;simp only[Option.map_some,Option.some.injEq] at h1
    split at h1<;>cases h1
def xM(K:Frag)(mg:Str->Option Value)(md:List Md)(R:RR)(m:M D):TE:=λσ H Q=>∃P,tM K mg md P R m σ H Q
def xMT(K:Frag)(mg:Str->Option Value)(md:List Md)(m:M Bool):TT:=λσ H Q=>∃P,tMT K mg md P m σ H Q
def xMG(K:Frag)(mg:Str->Option Value)(md:List Md)(g:MG):TG:=λv σ H Q=>∃P,tMG K mg md P g v σ H Q
def xm   (h:∀P,PE X e (tM X.K X.mg md P R m)):PE X e (xM X.K X.mg md R m):=λpins s σ H Q I ⟨P,q⟩=>h P _ s σ H Q I q
def xmg   (h:∀P,VG X md P e g):PG X e (xMG X.K X.mg md g):=λpins s σ H v u Q I r ⟨P,q⟩=>h P _ s σ H v u Q I r q
def xmt   (h:∀P,j8 X e (tMT X.K X.mg md P m)):j8 X e (xMT X.K X.mg md m):=λpins s σ H Q I ⟨P,q⟩=>h P _ s σ H Q I q
def VIf(X:Cx)(md:List Md)(P:Pt)(e:List Expr)(m:M Bool):Prop:=j8 X e (tMT X.K X.mg md P m)
def V9:VIf X md P [] bV:=λpins s σ H Q I q=>by
 obtain⟨ρ,O,F,f,d,j,r,s,e,k⟩:=q;cases e;exact T7 _ _ σ H Q I (k H F f Gr.refl r)
def Wa   (h:TsE X md P c m):VIf X md P [c] m:=T8 h
def wX{K:Frag}        (hcap:∀j∈cap,j<md.length)    (q:tM K mg md P (rO K) (bO m own.length cap g t e) σ H Q):
  sJ (wV K mg md P m) own cap (xMG K mg (cMd own.length cap md) g) (xMT K mg (cMd own.length cap md) t) (xM K mg (cMd own.length cap md) (rV K) e) σ H Q:=by
 obtain⟨ρ,O,F,as,d,OZ,r,s,T,k⟩:=q;obtain⟨G,O1,e1,T⟩:=Res.bind_ok T;split at T
 ·rename_i hz;obtain⟨yf,O2,e2,T⟩:=Res.bind_ok T;cases T;refine⟨ρ,_,F,as,_,_,r,s,e1,λJ H1 F1 X g1 r1 hJ=>?_⟩;have sb:=Fo (own:=own) (s.step g1) hcap
  refine⟨λi n ys σ' Z=>n=G.length - i/\i<=G.length/\∃C I E f u,Gr H1 F1 X Z E f/\RlO K mg I Z E f/\SlO K _ _ C σ' Z E f/\Rps K E f ys u/\u.length<=i /\
   b7 g t e (G.drop i) C I u=.ok yf OZ,⟨G.length,by simp,Nat.zero_le _,dM _ cap ρ,O1,F1,X,[],Gr.refl,r1,sb,Rps.nil,zc _,by exact e2⟩,?_⟩
  rintro i n ys σ' Z ⟨rfl,hi,C,I,E,f,u,g',r',s',hy,hl,ec⟩
  by_cases U:i<G.length
  ·obtain⟨go,yl⟩:=hJ.turn i _ Z E f g' ⟨I,r'⟩ (zt U)
   refine .inr ⟨go,?_,λys σ2 H2=>∃ρ2 O3 F2 W L,Gr H1 F1 X H2 F2 W/\RlO K mg O3 H2 F2 _/\SlO K _ _ ρ2 σ2 H2 F2 W/\Rps K F2 W ys L/\L.length<=i+1 /\
    b7 g t e _ ρ2 O3 _=.ok yf OZ,λys2 σ2 H2 h2=>⟨G.length - (i+1),by omega,rfl,U,h2⟩,λx H3 y=>?_⟩
   ·rw[hy.length]
    have:=d8 hz
    omega
   obtain⟨F3,g3,r3,hx⟩:=yl x H3 y;have r3':=r3 I r';have g13:=g'.trans g3;rw[List.drop_eq_getElem_cons U] at ec;unfold b7 at ec
   cases eg:g _ C with
   |none=>rw[eg] at ec;cases ec
   |some ρ1 =>
    rw[eg] at ec
    dsimp  at ec
    refine⟨_,C,I,F3,f,G[i],ρ1,r3',s'.step g3,hx,eg,λσ4 s4=>?_⟩
    cases et:t ρ1 I with
    | ex
    |no=>rw[et] at ec;cases ec
    |ok c O4 =>
     rw[et] at ec;refine⟨_,ρ1,I,F3,f,c,O4,r3',s4,et,λH5 F5 as5 R r5=>?_⟩
     cases c with
     |false =>
      exact⟨ρ1,O4,F5,as5,u,g13.trans R,r5,s4.step R,(hy.gr g3).gr R,by omega,ec⟩
     |true =>
      dsimp  at ec
      cases em:e _ O4 with
      | ex
      |no=>rw[em] at ec;cases ec
      |ok yd O6 =>
       rw[em] at ec;refine⟨_,ρ1,O4,F5,as5,yd,O6,r5,s4.step R,em,λvy H7 F7 as7 g7 r7 hvy=>?_⟩;exact⟨ρ1,O6,F7,as7,u++[yd],(g13.trans R).trans g7,r7,(s4.step R).step g7,(((hy.gr g3).gr R).gr g7).snoc hvy,by rw[ze];show u.length+1<=i+1;omega,ec⟩
  ·have hi':i=G.length:=by omega
   subst hi';rw[List.drop_length] at ec;cases ec;refine .inl ⟨hJ.stop Z E f g' ⟨_,r'⟩,?_,λp Y=>?_⟩
   ·rw[hy.length];exact zN hl (d8 hz)
   ·have hF:E p=none:=by
     cases q:E p with
     |none=>rfl
     |some o=>rw[r'.fh p o q] at Y;cases Y
    exact k _ _ E f ((g1.trans g').trans (Gr.lay Y)) (r'.lay Y) (.inr ⟨p,ys,yf,rfl,rfl,bx,hF,λz=>r'.all z Y,(g1.trans g').dm p Y,hy⟩)
 ·cases T
def fX{u:Pos}(f:Scope)(d own:List Str)(cap:List Nat)(L:X.calm=true)(G:VIc X md P T O mi)
  (I:∀C s H ex P,VG (bG X scope C (bD d own cap) s H ex) (cMd own.length cap md) P T g) (F:∀C s H ex P,VIf (bG X scope C (bD d own cap) s H ex) (cMd own.length cap md) P Q t)
  (J:∀C s H ex P,VE (bG X scope C (bD d own cap) s H ex) (cMd own.length cap md) P R e)
  (m:∀j∈cap,j<md.length:=by decide) (y:X.env.scope=f:=by rfl) (E:X.N=d:=by rfl) (ok:j7 f d scope own cap=true:=by decide +kernel) (hs:∀x,foldedSetIterable O X.env x=pure x:=by intro _;rfl):
  OE X md P (.ListComp R [⟨T,O,Q,0⟩] scope u) (bO mi own.length cap g t e):=
 (Ej _ d _ _ L G (λC s H ex=>xmg (I C s H ex)) (λC s H ex=>xmt (F C s H ex)) (λC s H ex=>xm (J C s H ex)) y E ok hs).imp λ_ _ _ q=>wX m q
def Fp{R:RR}{E:Pos}   {pos' f:Pos}(m:Scope)(y own:List Str)(cap:List Nat)(hN:X.N.Nodup)(hx:X.N[i]?=some x)(hl:Loc X.env.scope x)(hc:X.calm=true)(hi:VIc X md P tg iter mi)
  (hg:∀C s H ex P,VG (bG X scope C (bD y own cap) s H ex) (cMd own.length cap md) P tg g) (ht:∀C s H ex P,VIf (bG X scope C (bD y own cap) s H ex) (cMd own.length cap md) P ifs t)
  (he:∀C s H ex P,VE (bG X scope C (bD y own cap) s H ex) (cMd own.length cap md) P elt e)
  (hm:md[i]?=some .v:=by rfl) (I:∀j∈cap,j<md.length:=by decide) (U:swapsWith (.ListComp elt [⟨tg,iter,ifs,0⟩] scope E) (some (.Name x pos')) f.line X.env=pure true:=by rfl)
  (hf:X.fn x=true\/X.env.scope.names.lookup x=some .local:=by first | exact .inl rfl | exact .inr rfl | assumption)
  (W:X.env.scope=m:=by rfl) (Y:X.N=y:=by rfl) (ok:j7 m y scope own cap=true:=by decide +kernel) (hs:∀x,foldedSetIterable iter X.env x=pure x:=by intro _;rfl):
  VS X md P R (.Assign [.Name x pos'] (.ListComp elt [⟨tg,iter,ifs,0⟩] scope E) f) (aB i (bO mi own.length cap g t e)):=
 (Ek (i:=i) m y own cap hN hx hl hc hi (λC s H ex=>xmg (hg C s H ex)) (λC s H ex=>xmt (ht C s H ex)) (λC s H ex=>xm (he C s H ex)) U hf W Y ok hs).imp λD σ H q =>
  Fe hm (λσ H Q z=>wX I (by
   obtain⟨ρ,O,F,as,d,O',r,s,e,k⟩:=z;refine⟨ρ,_,F,as,_,_,r,s,e,λv H' J G g r' L=>?_⟩
   rcases L with⟨_,L⟩ | ⟨a,Z,ds,rfl,rfl,e3,T,e5,e6,e7⟩
   ·exact k v H' J G g r' L
   ·have ff:Same J (upd J a (.lst Z)):=λb u q=>by rw[aD (bT q T)];exact q
    exact k _ H' (upd J a (.lst Z)) G (g.frz e6 T) (r'.frz e3 T e5 rfl) (Rp.mkL (.inl (.inl bx)) (Rps.mono ff (λ_ _ z=>z) _ e7)))) q
def Fq{R:RR}{u:Pos}   {pos' d:Pos}(m:Scope)(f own:List Str)(cap:List Nat)(hN:X.N.Nodup)(hx:X.N[i]?=some x)(L:Loc X.env.scope x)(Y:X.calm=true)(O:VIc X md P tg Z mi)
  (T:∀C s H ex P,VG (bG X scope C (bD f own cap) s H ex) (cMd own.length cap md) P tg g) (I:∀C s H ex P,VIf (bG X scope C (bD f own cap) s H ex) (cMd own.length cap md) P ifs t)
  (W:∀C s H ex P,VE (bG X scope C (bD f own cap) s H ex) (cMd own.length cap md) P elt e)
  (J:md[i]?=some .o:=by rfl) (y:∀j∈cap,j<md.length:=by decide) (E:swapsWith (.ListComp elt [⟨tg,Z,ifs,0⟩] scope u) (some (.Name x pos')) d.line X.env=pure true:=by rfl)
  (U:X.fn x=true\/X.env.scope.names.lookup x=some .local:=by first | exact .inl rfl | exact .inr rfl | assumption)
  (F:X.env.scope=m:=by rfl) (G:X.N=f:=by rfl) (ok:j7 m f scope own cap=true:=by decide +kernel) (hs:∀x,foldedSetIterable Z X.env x=pure x:=by intro _;rfl):
  VS X md P R (.Assign [.Name x pos'] (.ListComp elt [⟨tg,Z,ifs,0⟩] scope u) d) (aB i (bO mi own.length cap g t e)):=
 (Ek _ f _ _ hN hx L Y O (λC s H ex=>xmg (T C s H ex)) (λC s H ex=>xmt (I C s H ex)) (λC s H ex=>xm (W C s H ex)) E U F G ok hs).imp λD σ H q =>
  Ff J (λσ H Q z=>wX y z) q
inductive vSp (K:Frag) (mg:Str->Option Value) (pm:List Md) (R:RR) (c:List D->au->Res D) (vs:List V) (H:Hp) (Q:VK) (x3_:XK):Prop
 |mk:∀ds O F as d O',RlO K mg O H F as->bN K H F as pm vs ds->c ds O=.ok d O'->(∀v H' F' as',Gr H F as H' F' as'->RlO K mg O' H' F' as'->R (λa=>H a=none) H' F' as' v d->Q v H')->vSp K mg pm R c vs H Q x3_
noncomputable def aG(n:Nat)(b:MS):List D->au->Res D:=λf O=>match b (f.map some++List.replicate (n - f.length) none) O with
 | .rt d O'=>.ok d O'
 | .nx _ O'=>.ok .non O'
 | .ex x O'=>.ex x O'
 | _=>.no
theorem bN.len{K:Frag}  :∀{ms:List Md}{vs:List V}{ds:List D},bN K H F as ms vs ds->vs.length=ms.length/\ds.length=ms.length
 | [],[],[],_=>⟨rfl,rfl⟩
 |m::ms,v::vs,d::ds,h=>by
  have:=bN.len h.2
  simp[this.1,this.2]
 | [],[],_::_,h=>h.elim
 | [],_::_,[],h=>h.elim
 | [],_::_,_::_,h=>h.elim
 | _::_,[],[],h=>h.elim
 | _::_,[],_::_,h=>h.elim
 | _::_,_::_,[],h=>h.elim
theorem bN.get{K:Frag}{H F:Hp}{f:List Addr}:∀{ms:List Md}{vs:List V}{ds:List D}{i:Nat}{m:Md}{d:D},bN K H F f ms vs ds->ms[i]?=some m->ds[i]?=some d->∃v,vs[i]?=some v/\rA K m (λ_=>True) H F f v d
 |m::ms,v::vs,d::ds,0,m',d',h,e1,e2=>by
  simp at e1 e2
  subst e1 e2;exact⟨v,rfl,h.1⟩
 |m::ms,v::vs,d::ds,i+1,m',d',h,e1,e2=>by
  obtain⟨j,h1,h2⟩:=bN.get (i:=i) (m:=m') (d:=d') h.2 (by simpa using e1) (by simpa using e2);exact⟨j,by simpa using h1,h2⟩
 | [],[],[],_,_,_,_,e1,_=>by simp at e1
 | [],[],_::_,_,_,_,h,_,_=>h.elim
 | [],_::_,[],_,_,_,h,_,_=>h.elim
 | [],_::_,_::_,_,_,_,h,_,_=>h.elim
 | _::_,[],[],_,_,_,h,_,_=>h.elim
 | _::_,[],_::_,_,_,_,h,_,_=>h.elim
 | _::_,_::_,[],_,_,_,h,_,_=>h.elim
def sV{K:Frag}       (h:bN K H F T Q vs ds)(O:(Q++R).length=N.length)(y:∀m∈Q,m≠.o):
  SlO K (Q++R) (Pt.all H) (ds.map some++List.replicate (N.length - ds.length) none) (start N vs) H F T:=by
 obtain :=h.len;rw[ze] at O
 have no:∀i a,(ds.map some++List.replicate (N.length - ds.length) none)[i]?=some (some a)->i<ds.length:=λi a e=>by
  by_cases u:i<ds.length
  ·exact u
  ·rw[zL (by simpa using u),List.getElem?_replicate] at e
   split at e<;>cases e
 refine⟨by unfold start;simp;omega,by simp;omega,λa z=>z,λi m d t f=>?_,λi j a C fs t f P=>?_,λ_ z=>nomatch z⟩
 ·have u:=no i d f;rw[zF (by simpa ),zC] at f;rw[zF (by omega)] at t
  cases q:ds[i]? with
  |none=>rw[q] at f;cases f
  |some  =>
   rw[q] at f;cases f;obtain⟨v,h3,h4⟩:=h.get t q;refine⟨v,?_,?_⟩
   ·unfold start;rw[zF (by simp;omega),zC,h3];rfl
   ·cases m with
    |v=>exact h4
    |s =>
     rcases h4 with h4 | ⟨a,L,C,J,I,x,G,E⟩
     ·exact .inl h4
     ·exact .inr ⟨a,L,C,J,I,x,G,(show H a≠none by rw[x];exact λz=>nomatch z),E⟩
    |o=>exact absurd rfl (y .o (zJ t))
 ·have u:=no i _ P;rw[zF (by omega)] at t;exact absurd rfl (y .o (zJ t))
def Wb{Y:Program}{w:World}{K:Frag}{base:Heap}  {st:Stmt}  {k:Nat}(Df:Def K mg x st)(S:dZ N ps (aO st))
  (hb:∀(kV U t:Value) (an:Option Addr) (j ct:Value) (us:List Value),us.length=ps.length->bindArgs (PySem.W.fnOf x x (cP st) (bY st) (aO st) .none kV U t an j ct) ⟨us,[]⟩=pure (ps.zip us))
  (t X:List Md)  {b:MS} (hR:d7 R) (T:∀N H F y,R N H F y .non .non) (L:t.length=ps.length:=by rfl) (hl:(t++X).length=N.length:=by rfl) (hp:∀m∈t,m≠.o:=by decide)
  (body:∀(f:Addr) (j:Value) (A:Around) (outer:List Env) (s:Shared) (H:Hp) (E:XK),aW k (A.deeper (envOfC x (aO st) s.heap.objs.size f j))->∀P,VSs ((fU CX0 Y w K mg base N x (aO st) f j A outer s H E).nox) (t++X) P R (bY st) b):
  Can Y w K mg base x ps (k+1) (vSp K mg t R (aG N.length b)):=by
 refine Df.can (k:=k) S hb (λZ H Q E h=>?_) (λf j A outer s H Z Q E hr h=>?_)
 ·obtain⟨G,O,F,y,d,O',r,a,_⟩:=h;rw[a.len.1,L]
 ·obtain⟨G,O,F,y,d,O',r,a,e,q⟩:=h;refine⟨_,body f j A outer s H E hr (Pt.all H),?_⟩;refine⟨_,O,F,y,r,sV a hl hp,?_⟩;unfold aG at e
  cases eb:b (G.map some++List.replicate (N.length - G.length) none) O with
  |rt d' O2 =>
   rw[eb] at e;cases e
   exact λv I J u g C hv=>q v I J u g.gr C (hR _ _ _ _ _ _ _ (λc hc=>jv.mp hc) hv)
  |nx ρ O2 =>
   rw[eb] at e;cases e
   exact λσ' I J u g C _=>q _ I J u g.gr C (T _ _ _ _)
  |bk _ _=>rw[eb] at e;cases e
  |ct _ _=>rw[eb] at e;cases e
  |ex _ _=>rw[eb] at e;cases e
  |no=>rw[eb] at e;cases e
noncomputable def aC(c:List D->au->Res D)(ma:M (List D)):M D:=λρ O=>(ma ρ O).bind λd f=>c d f
def Ft{K:Frag}  (C:d7 R)     (q:tM K mg md P R (aC c ma) σ H Q):wk (vSp K mg pm R c) [] E (tMA K mg md P pm ma) σ H Q:=by
 obtain⟨ρ,O,F,L,d,U,r,s,e,k⟩:=q;obtain⟨J,T,I,e⟩:=Res.bind_ok e;refine⟨ρ,_,F,L,_,_,r,s,I,λvs H1 X f j m x=>?_⟩;rw[zG];exact⟨J,T,X,f,d,U,m,x,e,λv W Y Z G t u=>k v W Y _ (j.trans G) t (C _ _ _ _ _ _ _ (λa y=>j.dm a y) u)⟩
def Fv{p d:Pos}(E:d7 R)(C:Can X.prog X.w X.K X.mg X.base x ps k (vSp X.K X.mg F R c))(m:aW k X.A)(y:AE X md P F (e::es) ma)(t:Gl X x:=by rfl)(j:(x == ("__debug__":Str))=false:=by decide)
  (u:starEach (e::es) X.env=(false,eval e X.env)::starEach es X.env:=by exact bM rfl) (f:(backTo d (starEach es X.env)).any (·.1)=false:=by exact cB rfl):PE X (.Call (.Name x p) (e::es) [] d) (tM X.K X.mg md P R (aC c ma)):=
 (Uc C m y t j u f).imp λ_ _ _ q=>Ft E q
def bL{K:Frag}{Q:VK}  (r:RlO K mg O H F u)(k:∀m f j,Gr H F u f j u->RlO K mg O f j u->Ow K (λa=>H a=none) f j u m d->Q m f)(t:iu d=true)(hv:Rp K F u v d):Q v H:=k v H F Gr.refl r (.inl ⟨t,hv⟩)
def RlO.frF{K:Frag}(r:RlO K mg O H F as)(d:H p=none):F p=none:=by
 cases q:F p with
 |none=>rfl
 |some o=>rw[r.fh p o q] at d;cases d
def km{K:Frag}{Q:VK}(r:RlO K mg O H F t)(k:∀m f j,Gr H F t f j t->RlO K mg O f j t->Ow K (λa=>H a=none) f j t m (.lst ds)->Q m f)(d:H p=none)(hs:Rps K F t xs ds):Q (.ref p) (upd H p (.lst xs)):=
 k _ _ F (Gr.lay d) (r.lay d) (.inr ⟨p,xs,ds,rfl,rfl,bx,r.frF d,λz=>r.all z d,d,hs⟩)
def Fw{K:Frag}{Q:VK}(r:RlO K mg O H F x)(k:∀t f m,Gr H F x f m x->RlO K mg O f m x->Ow K (λa=>H a=none) f m x t (.tup ds)->Q t f)(d:H p=none)(hs:Rps K F x xs ds):Q (.ref p) (upd H p (.tup xs)):=by
 have j:=r.frF d
 have ff:Same F (upd F p (.tup xs)):=λb u q=>by rw[aD (bT q j)];exact q
 exact k _ _ _ ((Gr.lay d).frz d j) ((r.lay d).frz bx j (λz=>r.all z d) rfl) (.inl ⟨rfl,Rp.mkT (.inl bx) (Rps.mono ff (λ_ _ z=>z) _ hs)⟩)
section
variable {X:Cx}
def Wc(K:Frag):R2:=λx y H Q=>∃l b f d,x=.ref l/\y=.ref b/\RdK K H l f/\RdK K H b d/\f.length+d.length<=sizeLine/\∀p,H p=none->Q (.ref p) (upd H p (.lst (f++d)))
def Wd:OpR X (binaryOp .Add) (Wc X.K):=by
 intro pins s σ H x y v u Q I t m h;obtain⟨l,b,R,L,rfl,rfl,C,E,U,q⟩:=h;cases t;cases m;obtain⟨z,f,n,r,e⟩:=C.ok I;obtain⟨O,d,T,j,G⟩:=E.ok I;have W:=r.length;have J:=j.length;refine PySem.P.add_list e G ?_
 have F:f.toArray++d.toArray=(f++d).toArray:=by simp
 rw[F];exact⟨.ref _,_,I.lnew (r.append j) (by rw[ze];omega),rfl,q _ I.fresh⟩
def We(K:Frag):R2:=λx y H Q=>∃l k d,x=.ref l/\y=.int k/\RdK K H l d/\-(2 ^ 63)<=k/\k<2 ^ 63/\d.length * k.toNat<=sizeLine /\
 ∀p,H p=none->Q (.ref p) (upd H p (.lst (List.replicate k.toNat d).flatten))
def Wf:OpR X (binaryOp .Mult) (We X.K):=by
 intro pins s σ H x y v u Q I R P h;obtain⟨l,k,W,rfl,rfl,U,h1,h2,G,q⟩:=h;cases R;obtain⟨t,rfl⟩:=P;obtain⟨z,d,n,r,e⟩:=U.ok I;have T:=r.length
 have hlen:d.toArray.size * k.toNat<=sizeLine:=by rw[zI,<-T];exact G
 have E:¬d.toArray.size * k.toNat>(2 ^ 63 - 1) / 8:=by
  have:sizeLine<=(2 ^ 63 - 1) / 8:=by decide
  omega
 have C:¬(!Builtin.List.listFitsIndex k)=true:=by
  rw[fitsIndex_both h1 h2];exact zA
 have f:¬Builtin.List.listTooLong (d.toArray.size * k.toNat)=true:=by
  rw[DR hlen];exact zA
 have j:List.foldl (λL J=>L++J) #[] (List.replicate (if d.toArray.isEmpty=true then 0 else k.toNat) d.toArray)=(List.replicate k.toNat d).flatten.toArray:=by
  have f0 :=λm=>by
   have:=foldl_rep d m []
   rw[zU] at this;exact this
  rw[f0]
  cases d with
  |nil=>simp
  |cons =>rw[if_neg (by simp)]
 refine wpAny_binaryOp_repeat_ref (by decide) ⟨_,e,rfl⟩ (λO=>typeIs_int O k t) noFill_list_mul F.fills_int_mul F.slot_int_rmul repeat_list F.slot_int_index.lookup
  (call_meets F.slot_int_rmul (typeIs_int s k t) F.entry_int_rmul (F.args_int_rmul_2 _ _) (int___rmul___int_list k t l _ n)
   ⟨e,rfl,⟨_,e,rfl⟩,call_meets F.slot_list_mul ⟨_,e,rfl⟩ F.entry_list_mul (F.args_list_mul_2 _ _) (AutoListH.list___mul___list_int_3 l _ n k t C E f) ⟨e,?_⟩⟩)
 rw[j];exact⟨.ref _,_,I.lnew (r.rep _) (by rw[len_rep,Nat.mul_comm];exact G),rfl,q _ I.fresh⟩
def aH:D->D->Option D
 | .int i,.int j=>some (.int (i+j))
 | .int i,.bl k=>some (.int (i+b2i k))
 | .str a,.str b=>if a.length+b.length<=1000000 then some (.str (a++b)) else none
 | .lst a,.lst b=>if a.length+b.length<=1000000 then some (.lst (a++b)) else none
 | .tup a,.tup b=>if a.length+b.length<=1000000/\a≠[] then some (.tup (a++b)) else none
 | _,_=>none
instance (a:List D):Decidable (a≠[]):=match a with
 | []=>isFalse λh=>h rfl
 | _::_=>isTrue λh=>nomatch h
def Wg:OpD X (binaryOp .Add) aH:=by
 intro pins s σ H x y v u Q I t m h;obtain⟨O,F,W,U,G,d,r,hx,C,e,k⟩:=h
 cases U with
 |int i =>
  cases(hx.rp rfl).unI
  cases G with
  |int j =>
   cases(C.rp rfl).unI;cases e;exact Q5 _ s σ H _ _ v u Q I t m ⟨i,j,rfl,rfl,bL r k rfl Rp.int⟩
  |bl j =>
   cases(C.rp rfl).unB;cases e;exact Rc _ s σ H _ _ v u Q I t m ⟨i,j,rfl,rfl,bL r k rfl Rp.int⟩
  | _=>cases e
 |str a =>
  cases(hx.rp rfl).unS
  cases G with
  |str b =>
   cases(C.rp rfl).unS;simp only[aH] at e;split at e
   ·rename_i f;cases e;refine Rt _ s σ H _ _ v u Q I t m ⟨S a,S b,rfl,rfl,by exact d8 f,?_⟩;rw[Uh];exact bL r k rfl Rp.str
   ·cases e
  | _=>cases e
 |lst a =>
  obtain⟨p,E,rfl,h1,h2⟩:=hx.list r.fh
  cases G with
  |lst b =>
   obtain⟨L,J,rfl,h3,h4⟩:=C.list r.fh;simp only[aH] at e;split at e
   ·rename_i f;cases e;exact Wd _ s σ H _ _ v u Q I t m ⟨p,L,E,J,rfl,rfl,h1,h3,by rw[h2.length,h4.length];exact d8 f,λq P=>km r k P (Rps.append h4 h2)⟩
   ·cases e
  | _=>cases e
 |tup a =>
  obtain⟨p,E,rfl,h1,h2⟩:=(hx.rp rfl).unT
  cases G with
  |tup b =>
   obtain⟨L,J,rfl,h3,h4⟩:=(C.rp rfl).unT;simp only[aH] at e;split at e
   ·rename_i f;cases e
    have R:E≠[]:=λz=>f.2 (List.eq_nil_of_length_eq_zero (by rw[<-h2.length,z];rfl))
    refine Sy _ s σ H _ _ v u Q I t m ⟨p,L,E,J,rfl,rfl,Same.seqT r.fh h1,Same.seqT r.fh h3,R,by rw[h2.length,h4.length];exact d8 f.1,λz=>?_,λ_ q P=>Fw r k P (Rps.append h4 h2)⟩;have T :=List.eq_nil_of_length_eq_zero (by rw[<-h4.length,z];rfl);subst T;rw[zG] at k;exact bL r k rfl (hx.rp rfl)
   ·cases e
  | _=>cases e
 | _=>cases e
def gI(C:Int->Int->Bool)(f:Int->Int->Int):D->D->Option D
 | .int i,.int j=>if C i j=true then some (.int (f i j)) else none
 | _,_=>none
def wY     (h:OpR X f (rI Cp λi j=>.int (g i j)))(G:∀i j,C i j=true->Cp i j):OpD X f (gI C g):=by
 intro pins s σ H x y v u Q I t m L;obtain⟨O,F,T,R,P,d,r,hx,E,e,k⟩:=L
 cases R with
 |int i =>
  cases(hx.rp rfl).unI
  cases P with
  |int j =>
   cases(E.rp rfl).unI;simp only[gI] at e;split at e
   ·rename_i J;cases e;exact h _ s σ H _ _ v u Q I t m ⟨i,j,rfl,rfl,G i j J,bL r k rfl Rp.int⟩
   ·cases e
  | _=>cases e
 | _=>cases e
def jA:D->D->Option D:=gI (λ_ _=>true) λi j=>i - j
def Wh:OpD X (binaryOp .Sub) jA:=by
 intro pins s σ H x y v u Q I m f C;obtain⟨O,F,J,G,E,d,r,hx,t,e,k⟩:=C
 cases G with
 |int i =>
  cases(hx.rp rfl).unI
  cases E with
  |int j =>
   cases(t.rp rfl).unI;cases e;exact Q6 _ s σ H _ _ v u Q I m f ⟨i,j,rfl,rfl,bL r k rfl Rp.int⟩
  | _=>cases e
 | _=>cases e
def nO(i:Int):Bool:=decide (-(2 ^ 64)<i)&&decide (i<2 ^ 64)
def wZ  (h:nO i=true):-(2 ^ 64)<i/\i<2 ^ 64:=by
 unfold nO at h;rw[zD,decide_eq_true_eq,decide_eq_true_eq] at h;exact h
def gP:D->D->Option D
 | .int i,.int j=>if(nO i || nO j)=true then some (.int (i * j)) else none
 | .str l,.int n=>if -1000000<n/\n<1000000/\l.length * n.toNat<=16777216 then some (.str (List.replicate n.toNat l).flatten) else none
 | .lst l,.int n=>if -1000000<n/\n<1000000/\l.length * n.toNat<=1000000 then some (.lst (List.replicate n.toNat l).flatten) else none
 | _,_=>none
def Wi:OpD X (binaryOp .Mult) gP:=by
 intro pins s σ H x y v u Q I t m h;obtain⟨O,F,P,L,E,d,r,hx,C,e,k⟩:=h
 cases L with
 |int i =>
  cases(hx.rp rfl).unI
  cases E with
  |int j =>
   cases(C.rp rfl).unI;simp only[gP] at e;split at e
   ·rename_i f;cases e;refine Q7 _ s σ H _ _ v u Q I t m ⟨i,j,rfl,rfl,?_,bL r k rfl Rp.int⟩;rw[Bool.or_eq_true] at f
    rcases f with z | z
    ·exact .inl (wZ z)
    ·exact .inr (wZ z)
   ·cases e
  | _=>cases e
 |str l =>
  cases(hx.rp rfl).unS
  cases E with
  |int n =>
   cases(C.rp rfl).unI;simp only[gP] at e;split at e
   ·rename_i f;cases e;exact UW _ s σ H _ _ v u Q I t m ⟨l,n,rfl,rfl,f.1,f.2.1,f.2.2,bL r k rfl Rp.str⟩
   ·cases e
  | _=>cases e
 |lst l =>
  obtain⟨p,G,rfl,h1,h2⟩:=hx.list r.fh
  cases E with
  |int n =>
   cases(C.rp rfl).unI;simp only[gP] at e;split at e
   ·rename_i f;cases e;exact Wf _ s σ H _ _ v u Q I t m ⟨p,n,G,rfl,rfl,h1,by omega,by omega,by rw[h2.length];exact d8 f.2.2,λq J=>km r k J (h2.rep _)⟩
   ·cases e
  | _=>cases e
 | _=>cases e
def b8:D->D->Option D:=gI (λ_ j=>decide (0<j)) λi j=>i % j
def Wj:OpD X (binaryOp .Mod) b8:=wY Q9 λ_ _ h=>zP h
def kE:D->D->Option D:=gI (λ_ j=>decide (0<j)&&decide (j<1073741824)) λi j=>i / j
def Wk:OpD X (binaryOp .FloorDiv) kE:=wY Q8 λi j h=>by
 rw[zD,decide_eq_true_eq,decide_eq_true_eq] at h;exact h
def iy:D->D->Option D:=gI (λi j=>decide (0<=j)&&(decide (j<=1000000)&&nO i)) λi j=>i ^ j.toNat
def Wl:OpD X (binaryOp .Pow) iy:=wY Ra λi j h=>by
 rw[zD,zD,decide_eq_true_eq,decide_eq_true_eq] at h
 have:=wZ h.2.2
 exact⟨h.1,h.2.1,by omega⟩
def mUn(g:D->Option D)(m:M D):M D:=λρ O=>(m ρ O).bind λd f=>match g (aV f d) with
 |some y=>.ok y f
 |none=>.no
def nP:D->Option D
 | .int i=>some (.int (-i))
 | _=>none
theorem Wm      (h:SE X md P a m):OE X md P (.UnaryOp .USub a pos) (mUn nP m):=(Q0 Rb h).imp λσ H Q q=>by
 obtain⟨ρ,O,F,y,d,J,r,s,e,k⟩:=q;obtain⟨x,C,u,e⟩:=Res.bind_ok e;refine⟨ρ,_,F,y,_,_,r,s,u,λv E G I t f j=>?_⟩
 cases ed:aV C x with
 |int i =>
  rw[ed] at e;cases e
  have:=Sv.lk j f
  rw[ed] at this;exact⟨i,(this.rp rfl).unI,k _ E G _ t f (.inl ⟨rfl,Rp.int⟩)⟩
 | _=>rw[ed] at e;cases e
def gCI(f:Int->Int->Bool):D->D->Option D
 | .int i,.int j=>some (.bl (f i j))
 | _,_=>none
def Fx   (h:OpR X f (rI0 λi j=>.bl (g i j))):OpD X f (gCI g):=by
 intro pins s σ H x y v u Q I t m E;obtain⟨O,F,L,J,G,d,r,hx,C,e,k⟩:=E
 cases J with
 |int i =>
  cases(hx.rp rfl).unI
  cases G with
  |int j =>
   cases(C.rp rfl).unI;cases e;exact h _ s σ H _ _ v u Q I t m ⟨i,j,rfl,rfl,bL r k rfl Rp.bl⟩
  | _=>cases e
 | _=>cases e
def gLt:D->D->Option D:=gCI λi j=>decide (i<j)
def gGt:D->D->Option D:=gCI λi j=>decide (j<i)
def gGe:D->D->Option D:=gCI λi j=>decide (j<=i)
def gLe:D->D->Option D
 | .int i,.int j=>some (.bl (decide (i<=j)))
 | .str a,.str b=>some (.bl (!decide (b<a)))
 | _,_=>none
def sW:OpD X (compareOp .LtE) gLe:=by
 intro pins s σ H x y v u Q I m f E;obtain⟨O,F,J,G,C,d,r,hx,t,e,k⟩:=E
 cases G with
 |int i =>
  cases(hx.rp rfl).unI
  cases C with
  |int j =>
   cases(t.rp rfl).unI;cases e;exact Rg _ s σ H _ _ v u Q I m f ⟨i,j,rfl,rfl,bL r k rfl Rp.bl⟩
  | _=>cases e
 |str a =>
  cases(hx.rp rfl).unS
  cases C with
  |str b =>
   cases(t.rp rfl).unS;cases e;refine Ui _ s σ H _ _ v u Q I m f ⟨S a,S b,rfl,rfl,?_⟩;exact bL r k rfl Rp.bl
  | _=>cases e
 | _=>cases e
def Wn:OpD X (compareOp .Lt) gLt:=Fx Rf
def Wo:OpD X (compareOp .Gt) gGt:=Fx Rh
mutual
def toP:D->PyData
 | .non=>.none
 | .bl b=>.bool b
 | .int i=>.int i
 | .str l=>.str (S l)
 | .lst ds=>.list (kJ ds)
 | .tup ds=>.tuple (kJ ds)
 | .dic _ _=>.none
 | .ob _=>.none
def kJ:List D->List PyData
 | []=>[]
 |d::ds=>toP d::kJ ds
end
mutual
def gk:D->Bool
 | .lst ds=>lU ds
 | .tup ds=>lU ds
 | .dic _ _=>false
 | .ob _=>false
 | _=>true
def lU:List D->Bool
 | []=>true
 |d::ds=>gk d&&lU ds
end
section
variable {K:Frag}{F:Hp}{as:List Addr}
mutual
theorem Rp.rep:∀(d:D) {v:V},gk d=true->Rp K F as v d->Rep K F v (toP d)
 | .non,v,_,h=>by rw[toP,Rep];exact h.unN
 | .bl b,v,_,h=>by rw[toP,Rep];exact h.unB
 | .int i,v,_,h=>by rw[toP,Rep];exact h.unI
 | .str x,v,_,h=>by rw[toP,Rep];exact h.unS
 | .lst ds,v,hp,h=>by
  obtain⟨a,f,h1,h2,h3⟩:=h.unL;rw[toP,Rep];rw[gk] at hp;exact⟨a,f,h1,h2.sq,Rps.rep' ds hp h3⟩
 | .tup ds,v,hp,h=>by
  obtain⟨a,f,h1,h2,h3⟩:=h.unT;rw[toP,Rep];rw[gk] at hp;exact⟨a,f,h1,h2,Rps.rep' ds hp h3⟩
 | .dic _ _,v,hp,h=>by rw[gk] at hp;cases hp
 | .ob _,v,hp,h=>by rw[gk] at hp;cases hp
theorem Rps.rep':∀(ds:List D) {xs:List V},lU ds=true->Rps K F as xs ds->bZ K F xs (kJ ds)
 | [],xs,_,h=>by rw[h.un0,kJ];exact bZ.nil
 |d::ds,xs,hp,h=>by
  obtain⟨x,r,rfl,h2,h3⟩:=h.un;rw[lU,zD] at hp;rw[kJ];exact bZ.cons (Rp.rep d hp.1 h2) (Rps.rep' ds hp.2 h3)
end
def Lk.rep{K:Frag}    (h:Lk K H F as v d)(fh:Same F H)(f:gk d=true):Rep K H v (toP d):=by
 rcases h with h | ⟨a,j,m,rfl,rfl,h1,h2⟩
 ·exact Rep.mono fh _ (Rp.rep d f h)
 ·exact⟨a,j,rfl,.inl (.inl h1),bZ.mono fh _ (Rps.rep' m f h2)⟩
end
def okE(d:D):Bool:=gk d&&okD (toP d)
def lV(a b:D):Bool:=PyData.eqv (toP a) (toP b)
def gEq:D->D->Option D
 | .int i,.int j=>some (.bl (decide (i=j)))
 | .str a,.str b=>some (.bl (decide (a=b)))
 | .bl a,.bl b=>some (.bl (decide (a=b)))
 |a,b=>if(okE a&&okE b)=true then some (.bl (lV a b)) else none
def gNe:D->D->Option D
 | .int i,.int j=>some (.bl (!decide (i=j)))
 | .str a,.str b=>some (.bl (!decide (a=b)))
 | .bl a,.bl b=>some (.bl (!decide (a=b)))
 |a,b=>if(okE a&&okE b)=true then some (.bl (!lV a b)) else none
def Fy(a b:List Nat):decide (V.str (S a)=V.str (S b))=decide (a=b):=by
 by_cases h:a=b
 ·subst h;simp
 ·rw[zq h,zq];intro z;exact h (nG (V.str.inj z))
def Fz(a b:Int):decide (V.int a=V.int b)=decide (a=b):=by
 by_cases h:a=b
 ·simp
 ·rw[zq h,zq];intro z;exact h (V.int.inj z)
def FJ(a b:Bool):decide (V.bl a=V.bl b)=decide (a=b):=by
 cases a<;>cases b<;>rfl
def Wq  (h:gEq a b=some d):(∃i j,a=.int i/\b=.int j/\d=.bl (decide (i=j)))\/(∃i j,a=.str i/\b=.str j/\d=.bl (decide (i=j)))\/(∃i j,a=.bl i/\b=.bl j/\d=.bl (decide (i=j))) \/
  (okE a=true/\okE b=true/\d=.bl (lV a b)):=by
 unfold gEq at h;split at h
 ·cases h;exact .inl ⟨_,_,rfl,rfl,rfl⟩
 ·cases h;exact .inr (.inl ⟨_,_,rfl,rfl,rfl⟩)
 ·cases h;exact .inr (.inr (.inl ⟨_,_,rfl,rfl,rfl⟩))
 ·split at h
  ·rename_i f;rw[zD] at f;cases h;exact .inr (.inr (.inr ⟨f.1,f.2,rfl⟩))
  ·cases h
def Wr  (h:gNe a b=some d):(∃i j,a=.int i/\b=.int j/\d=.bl (!decide (i=j)))\/(∃i j,a=.str i/\b=.str j/\d=.bl (!decide (i=j)))\/(∃i j,a=.bl i/\b=.bl j/\d=.bl (!decide (i=j))) \/
  (okE a=true/\okE b=true/\d=.bl (!lV a b)):=by
 unfold gNe at h;split at h
 ·cases h;exact .inl ⟨_,_,rfl,rfl,rfl⟩
 ·cases h;exact .inr (.inl ⟨_,_,rfl,rfl,rfl⟩)
 ·cases h;exact .inr (.inr (.inl ⟨_,_,rfl,rfl,rfl⟩))
 ·split at h
  ·rename_i f;rw[zD] at f;cases h;exact .inr (.inr (.inr ⟨f.1,f.2,rfl⟩))
  ·cases h
def FN  (C:aW k X.A):OpD X (compareOp .Eq) gEq:=by
 intro pins s σ H x y v u Q I m f E;obtain⟨O,F,L,J,G,d,r,hx,t,e,k⟩:=E
 rcases Wq e with⟨i,j,rfl,rfl,rfl⟩ | ⟨i,j,rfl,rfl,rfl⟩ | ⟨i,j,rfl,rfl,rfl⟩ | ⟨h1,h2,rfl⟩
 ·cases(hx.rp rfl).unI;cases(t.rp rfl).unI;refine vY _ s σ H _ _ v u Q I m f ⟨rfl,?_⟩;rw[Fz];exact bL r k rfl Rp.bl
 ·cases(hx.rp rfl).unS;cases(t.rp rfl).unS;refine vY _ s σ H _ _ v u Q I m f ⟨rfl,?_⟩;rw[Fy];exact bL r k rfl Rp.bl
 ·cases(hx.rp rfl).unB;cases(t.rp rfl).unB;refine vY _ s σ H _ _ v u Q I m f ⟨rfl,?_⟩;rw[FJ];exact bL r k rfl Rp.bl
 ·unfold okE at h1 h2;rw[zD] at h1 h2;exact Ud C _ s σ H _ _ v u Q I m f ⟨toP J,toP G,hx.rep r.fh h1.1,t.rep r.fh h2.1,h1.2,h2.2,bL r k rfl Rp.bl⟩
def Ws  (C:aW k X.A):OpD X (compareOp .NotEq) gNe:=by
 intro pins s σ H x y v u Q I m f E;obtain⟨O,F,L,J,G,d,r,hx,t,e,k⟩:=E
 rcases Wr e with⟨i,j,rfl,rfl,rfl⟩ | ⟨i,j,rfl,rfl,rfl⟩ | ⟨i,j,rfl,rfl,rfl⟩ | ⟨h1,h2,rfl⟩
 ·cases(hx.rp rfl).unI;cases(t.rp rfl).unI;refine vZ _ s σ H _ _ v u Q I m f ⟨rfl,?_⟩;rw[Fz];exact bL r k rfl Rp.bl
 ·cases(hx.rp rfl).unS;cases(t.rp rfl).unS;refine vZ _ s σ H _ _ v u Q I m f ⟨rfl,?_⟩;rw[Fy];exact bL r k rfl Rp.bl
 ·cases(hx.rp rfl).unB;cases(t.rp rfl).unB;refine vZ _ s σ H _ _ v u Q I m f ⟨rfl,?_⟩;rw[FJ];exact bL r k rfl Rp.bl
 ·unfold okE at h1 h2;rw[zD] at h1 h2;exact Ue C _ s σ H _ _ v u Q I m f ⟨toP J,toP G,hx.rep r.fh h1.1,t.rep r.fh h2.1,h1.2,h2.2,bL r k rfl Rp.bl⟩
def toV:D->V
 | .bl b=>.bl b
 | .int i=>.int i
 | .str l=>.str (S l)
 | _=>.non
def gm:D->Bool
 | .non=>true
 | .bl _=>true
 | .int _=>true
 | .str _=>true
 | _=>false
def eqF(x y:D):Bool:=eqV (toV x) (toV y)
def Rp.flat{K:Frag}     (h:Rp K F as v d)(f:gm d=true):v=toV d/\ir v=true:=by
 cases d with
 |non=>rw[h.unN];exact⟨rfl,rfl⟩
 |bl b=>rw[h.unB];exact⟨rfl,rfl⟩
 |int b=>rw[h.unI];exact⟨rfl,rfl⟩
 |str b=>rw[h.unS];exact⟨rfl,rfl⟩
 | _=>cases f
theorem Rps.flat{K:Frag}{F:Hp}{u:List Addr}:∀{ds:List D}{xs:List V},Rps K F u xs ds->ds.all gm=true->xs=ds.map toV/\xs.all ir=true
 | [],xs,h,_=>by rw[h.un0];exact⟨rfl,rfl⟩
 |d::ds,xs,h,hf=>by
  obtain⟨x,r,rfl,h2,h3⟩:=h.un;rw[List.all_cons,zD] at hf;obtain⟨t,m⟩:=h2.flat hf.1;obtain⟨j,f⟩:=Rps.flat h3 hf.2;exact⟨by rw[zg,<-t,<-j],by rw[List.all_cons,m,f];rfl⟩
def gIn(d:Bool):D->D->Option D
 | .str [c],.str l=>some (.bl (d ^^ decide (c∈l)))
 |x,.lst ds=>if(gm x&&ds.all gm)=true then some (.bl (d ^^ ds.any λy=>eqF y x)) else none
 |x,.tup ds=>if(gm x&&ds.all gm)=true then some (.bl (d ^^ ds.any λy=>eqF y x)) else none
 | _,_=>none
def FP   (h:gIn j a b=some d):(∃c l,a=.str [c]/\b=.str l/\d=.bl (j ^^ decide (c∈l)))\/(∃ds,(b=.lst ds\/b=.tup ds)/\gm a=true/\ds.all gm=true/\d=.bl (j ^^ ds.any λy=>eqF y a)):=by
 unfold gIn at h;split at h
 ·cases h;exact .inl ⟨_,_,rfl,rfl,rfl⟩
 ·split at h
  ·rename_i f;rw[zD] at f;cases h;exact .inr ⟨_,.inl rfl,f.1,f.2,rfl⟩
  ·cases h
 ·split at h
  ·rename_i f;rw[zD] at f;cases h;exact .inr ⟨_,.inr rfl,f.1,f.2,rfl⟩
  ·cases h
 ·cases h
def FQ  {ds:List D}:inV (toV x) (ds.map toV)=ds.any λy=>eqF y x:=by
 unfold inV;rw[List.any_map];rfl
def FT{K:Frag}        (r:RlO K mg O H F f)(d:Lk K H F f v b)(hb:b=.lst ds\/b=.tup ds):∃p xs,v=.ref p/\(SqL K H p xs\/SqT K H p xs)/\Rps K F f xs ds:=by
 rcases hb with rfl | rfl
 ·obtain⟨p,xs,e,h1,h2⟩:=d.list r.fh;exact⟨p,xs,e,.inl h1.sq,h2⟩
 ·obtain⟨p,xs,e,h1,h2⟩:=(d.rp rfl).unT;exact⟨p,xs,e,.inr (Same.seqT r.fh h1),h2⟩
def FW  (h:gm d=true):iu d=true:=by cases d<;>first | rfl | cases h
def FZ:OpD X (compareOp .In) (gIn false):=by
 intro pins s σ H x y v u Q I j f E;obtain⟨O,F,W,T,R,d,r,hx,m,e,k⟩:=E
 rcases FP e with⟨c,l,rfl,rfl,rfl⟩ | ⟨U,C,h1,h2,rfl⟩
 ·cases(hx.rp rfl).unS;cases(m.rp rfl).unS;refine Uj _ s σ H _ _ v u Q I j f ⟨c,l,rfl,rfl,?_⟩;rw[Bool.false_xor] at k;exact bL r k rfl Rp.bl
 ·obtain⟨p,t,rfl,h3,h4⟩:=FT r m C;obtain⟨P,L⟩:=(hx.rp (FW h1)).flat h1;obtain⟨J,G⟩:=h4.flat h2;refine Te _ s σ H _ _ v u Q I j f ⟨p,t,rfl,h3,L,G,?_⟩;rw[P,J,FQ];rw[Bool.false_xor] at k;exact bL r k rfl Rp.bl
def Wt:OpD X (compareOp .NotIn) (gIn true):=by
 intro pins s σ H x y v u Q I j f E;obtain⟨O,F,W,T,R,d,r,hx,m,e,k⟩:=E
 rcases FP e with⟨c,l,rfl,rfl,rfl⟩ | ⟨U,C,h1,h2,rfl⟩
 ·cases(hx.rp rfl).unS;cases(m.rp rfl).unS;refine Uk _ s σ H _ _ v u Q I j f ⟨c,l,rfl,rfl,?_⟩;rw[Bool.true_xor] at k;exact bL r k rfl Rp.bl
 ·obtain⟨p,t,rfl,h3,h4⟩:=FT r m C;obtain⟨P,L⟩:=(hx.rp (FW h1)).flat h1;obtain⟨J,G⟩:=h4.flat h2;refine Tf _ s σ H _ _ v u Q I j f ⟨p,t,rfl,h3,L,G,?_⟩;rw[P,J,FQ];rw[Bool.true_xor] at k;exact bL r k rfl Rp.bl
def gIx:D->D->Option D
 | .lst ds,.int i=>atI ds i
 | .tup ds,.int i=>atI ds i
 | .str l,.int i=>if l.length<=1000000 then(atI l i).map λc=>.str [c] else none
 | _,_=>none
def Rps.atI{K:Frag}       (h:Rps K F as xs ds)(e:atI ds i=some d):∃v,L2.atI xs i=some v/\Rp K F as v d:=by
 unfold L2.atI at e ⊢;rw[h.length]
 cases q:ixN _ i with
 |none=>rw[q] at e;cases e
 |some j =>
  rw[q] at e;exact h.get' e
inductive rDv (K:Frag) (mg:Str->Option Value) (g:D->D->Option D) (x:V) (y:V) (H:Hp) (Q:VK):Prop
 | mk:∀O F as dx dy d,RlO K mg O H F as->Lk K H F as x dx->Lk K H F as y dy->g dx dy=some d->(∀v',Rp K F as v' d->Q v' H)->rDv K mg g x y H Q
def Wu:IxR X (rDv X.K X.mg gIx):=by
 intro value slice pins s σ H x y v u Q I t m P f;obtain⟨O,F,T,R,J,d,r,hx,C,e,k⟩:=P
 cases R with
 |lst  =>
  obtain⟨p,j,rfl,h1,h2⟩:=hx.list r.fh
  cases J with
  |int i =>
   cases(C.rp rfl).unI;obtain⟨z,G,E⟩:=h2.atI e;exact S5 _ _ _ s σ H _ _ v u Q I t m ⟨p,j,i,z,rfl,rfl,h1.sq,G,k z E⟩ f
  | _=>cases e
 |tup  =>
  obtain⟨p,j,rfl,h1,h2⟩:=(hx.rp rfl).unT
  cases J with
  |int i =>
   cases(C.rp rfl).unI;obtain⟨z,G,E⟩:=h2.atI e;exact S6 _ _ _ s σ H _ _ v u Q I t m ⟨p,j,i,z,rfl,rfl,Same.seqT r.fh h1,G,k z E⟩ f
  | _=>cases e
 |str l =>
  cases(hx.rp rfl).unS
  cases J with
  |int i =>
   cases(C.rp rfl).unI;simp only[gIx] at e;split at e
   ·rename_i L
    cases q:L2.atI l i with
    |none=>rw[q] at e;cases e
    |some c =>
     rw[q] at e;cases e;exact S7 _ _ _ s σ H _ _ v u Q I t m ⟨S l,i,c,rfl,rfl,by exact d8 L,by exact q,k _ Rp.str⟩ f
   ·cases e
  | _=>cases e
 | _=>cases e
def Wv      (U:SE X md P a ma)(hb:SE X md P b mb)(hs:rY b:=by intro _ _;rfl):VE X md P (.Subscript a b pos) (ak gIx ma mb):=(SM Wu U hb hs).imp λσ H Q h=>by
 obtain⟨ρ,O,F,Z,d,O',r,sl,e,k⟩:=h;obtain⟨x,O1,Y,e⟩:=Res.bind_ok e;obtain⟨y,O2,W,e⟩:=Res.bind_ok e;split at e
 ·rename_i d' T;cases e;refine⟨ρ,_,F,Z,_,_,r,sl,Y,λv H1 F1 m C I L=>?_⟩;refine⟨ρ,_,F1,m,_,_,I,sl.step C,W,λu H2 E j t f R=>?_⟩;exact⟨_,E,j,_,_,_,f,Sv.lk (Sv.gr L t) f,Sv.lk R f,T,λG J=>k G H2 E _ (C.trans t) f J⟩
 ·cases e
inductive tMO (K:Frag) (mg:Str->Option Value) (md:List Md) (P:Pt) (m:M (Option Int)) (σ:St) (H:Hp) (Q:(Option Int->Hp->Prop)):Prop
 | mk:∀ρ O F as b O',RlO K mg O H F as->SlO K md P ρ σ H F as->m ρ O=.ok b O'->(∀H' F' as',Gr H F as H' F' as'->RlO K mg O' H' F' as'->Q b H')->tMO K mg md P m σ H Q
def VO(X:Cx)(md:List Md)(P:Pt)(e:Option Expr)(m:M (Option Int)):Prop:=PO X e (tMO X.K X.mg md P m)
def PO.imp   (h:PO X e t)(k:∀σ H Q,t' σ H Q->t σ H Q):PO X e t':=λpins s σ H Q I q=>h pins s σ H Q I (k σ H Q q)
def moN:M (Option Int):=λ_ O=>.ok none O
def moS(m:M D):M (Option Int):=λρ O=>(m ρ O).bind λd f=>match d with
 | .int i=>.ok (some i) f
 | _=>.no
def Ww  :VO X md P none moN:=Sh.imp λσ H Q q=>by
 obtain⟨ρ,O,F,f,d,j,r,s,e,k⟩:=q;cases e;exact k H F f Gr.refl r
theorem Wx     (h:VE X md P e m):VO X md P (some e) (moS m):=(Sq h).imp λσ H Q q=>by
 obtain⟨ρ,O,F,y,d,J,r,s,e,k⟩:=q;obtain⟨x,I,u,e⟩:=Res.bind_ok e
 cases x with
 |int i =>
  cases e;exact⟨ρ,_,F,y,_,_,r,s,u,λv C E G t f j=>⟨i,Rp.unI j,k C E _ t f⟩⟩
 | _=>cases e
def gSl(d:D)(lo f:Option Int):Option D:=match d with
 | .lst ds=>some (.lst (cG ds lo f))
 | .tup ds=>some (.tup (cG ds lo f))
 | .str l=>if l.length<=16777216 then some (.str (cG l lo f)) else none
 | _=>none
inductive Ga (K:Frag) (mg:Str->Option Value) (x:V) (lo:Option Int) (hi:Option Int) (H:Hp) (Q:VK):Prop
 |mk:∀O F as dx d,RlO K mg O H F as->Lk K H F as x dx->gSl dx lo hi=some d->(∀v' H' F',Gr H F as H' F' as->RlO K mg O H' F' as->Ow K (λa=>H a=none) H' F' as v' d->Q v' H')->Ga K mg x lo hi H Q
def Rps.cut{K:Frag}     (h:Rps K F f xs ds)(lo d:Option Int):Rps K F f (lL xs lo d) (cG ds lo d):=by
 unfold lL cG;rw[h.length];exact(h.drop _).take _
def Wz:SlR X (Ga X.K X.mg):=by
 intro pins s σ H x v vl m lo f sl Q I t hs pl u h;obtain⟨O,F,G,E,d,r,hx,e,k⟩:=h
 cases E with
 |lst  =>
  obtain⟨p,j,rfl,h1,h2⟩:=hx.list r.fh;cases e;exact Tc _ s σ H _ v vl m lo f sl Q I t hs pl u ⟨p,j,rfl,h1.sq,λq y=>km r k y (h2.cut lo f)⟩
 |tup ds =>
  obtain⟨p,j,rfl,h1,h2⟩:=(hx.rp rfl).unT;cases e;refine Uv _ rfl _ s σ H _ v vl m lo f sl Q I t hs pl u ⟨p,j,rfl,Same.seqT r.fh h1,λz=>?_,λ_ q y=>Fw r k y (h2.cut lo f)⟩
  have:cG ds lo f=ds:=by
   unfold cG;rw[<-h2.length,z.1,z.2,List.drop_zero,Nat.sub_zero,h2.length,List.take_length]
  rw[this] at k;exact bL r k rfl (hx.rp rfl)
 |str l =>
  cases(hx.rp rfl).unS;simp only[gSl] at e;split at e
  ·rename_i C;cases e;exact Ut _ s σ H _ v vl m lo f sl Q I t hs pl u ⟨l,rfl,zN C (Nat.le_of_eq sizeLine_eq.symm),bL r k rfl Rp.str⟩
  ·cases e
 | _=>cases e
def mSl(m:M D)(lo j:M (Option Int)):M D:=λρ O=>(m ρ O).bind λd u=>(lo ρ u).bind λl t=>(j ρ t).bind λh f=>match gSl (aV f d) l h with
 |some y=>.ok y f
 |none=>.no
end
section
variable {X:Cx}{md:List Md}{P:Pt}{R:RR}
def WD  {lo:Option Expr}    (he:SE X md P e m)(hl:VO X md P lo ml)(hh:VO X md P hi mh):OE X md P (.Subscript e (.Slice lo hi none p2) pos) (mSl m ml mh):=(Ss Wz he hl hh).imp λσ H Q q=>by
 obtain⟨ρ,O,F,as,d,O',r,s,e,k⟩:=q;obtain⟨x,O1,e1,e⟩:=Res.bind_ok e;obtain⟨l,O2,e2,e⟩:=Res.bind_ok e;obtain⟨h,O3,e3,e⟩:=Res.bind_ok e;split at e
 ·rename_i y hg;cases e;refine⟨ρ,_,F,as,_,_,r,s,e1,λv H1 F1 C J U Z=>?_⟩;refine⟨ρ,_,F1,C,_,_,U,s.step J,e2,λH2 F2 u I T=>?_⟩;have j:=J.trans I;refine⟨ρ,_,F2,u,_,_,T,s.step j,e3,λH3 F3 t G E=>?_⟩;have f:=j.trans G;exact⟨_,F3,t,_,_,E,Sv.lk (Sv.gr (Sv.gr Z I) G) E,hg,λL H' F' g' W Y=>k L H' F' _ (f.trans g') W (fD _ _ _ _ _ _ _ (λa ha=>f.dm a ha) Y)⟩
 ·cases e
def Lks(K:Frag)(H F:Hp)(f:List Addr):List V->List D->Prop
 | [],[]=>True
 |v::vs,d::ds=>Lk K H F f v d/\Lks K H F f vs ds
 | _,_=>False
theorem bN.lks{K:Frag}     (r:RlO K mg O H F as):∀{ms:List Md}{vs:List V}{ds:List D},bN K H F as ms vs ds->Lks K H F as vs (ds.map (aV O))
 | [],[],[],_=>trivial
 |m::ms,v::vs,d::ds,h=>by
  refine⟨?_,bN.lks r h.2⟩
  have h1:Sv K H F as v d:=by
   cases m with
   |v=>exact .inl h.1
   |s=>exact h.1
   |o=>exact h.1
  exact h1.lk r
 | [],[],_::_,h=>h.elim
 | [],_::_,[],h=>h.elim
 | [],_::_,_::_,h=>h.elim
 | _::_,[],[],h=>h.elim
 | _::_,[],_::_,h=>h.elim
 | _::_,_::_,[],h=>h.elim
inductive rC (K:Frag) (mg:Str->Option Value) (g:List D->Option D) (vs:List V) (H:Hp) (Q:VK):Prop
 |mk:∀O F as ds d,RlO K mg O H F as->Lks K H F as vs ds->g ds=some d->(∀v' H' F',Gr H F as H' F' as->RlO K mg O H' F' as->Ow K (λa=>H a=none) H' F' as v' d->Q v' H')->rC K mg g vs H Q
abbrev kO(X:Cx)(f:Value)(g:List D->Option D):Prop:=cZ X f (rC X.K X.mg g)
def aU(g:List D->Option D)(ma:M (List D)):M D:=λρ O=>(ma ρ O).bind λj f=>match g (j.map (aV f)) with
 |some d=>.ok d f
 |none=>.no
def w5{K:Frag}        (q:tM K mg md P (rO K) (aU g ma) σ H Q):tCB (rC K mg g) (tMA K mg md P ms ma) σ H Q:=by
 obtain⟨ρ,O,F,L,d,O',r,s,e,k⟩:=q;obtain⟨Z,O1,J,e⟩:=Res.bind_ok e;split at e
 ·rename_i y E;cases e;refine⟨ρ,_,F,L,_,_,r,s,J,λY H1 U f m j C=>?_⟩;exact⟨_,U,f,_,_,j,C.lks j,E,λt T W I u x=>k t T W _ (m.trans I) u (fD _ _ _ _ _ _ _ (λa G=>m.dm a G) x)⟩
 ·cases e
def sX  {p d:Pos}   {m:String}    (E:kO X (.builtin m) g)(u:X.mg x=none)(F:AE X md P ms (e::es) ma)(hv:bootBuiltins x=some (.builtin m):=by decide +kernel)(y:Gl X x:=by rfl)
  (t:x≠"__name__":=by decide) (j:(x == ("__debug__":Str))=false:=by decide) (C:starEach (e::es) X.env=(false,eval e X.env)::starEach es X.env:=by exact bM rfl) (f:(backTo d (starEach es X.env)).any (·.1)=false:=by exact cB rfl):
  OE X md P (.Call (.Name x p) (e::es) [] d) (aU g ma):=(wB E y u hv F t j C f).imp λ_ _ _ q=>w5 q
def Gb  {p d:Pos}       (C:kO X (.type T) g)(t:X.mg x=none)(E:AE X md P ms (e::es) ma)(hv:bootBuiltins x=some (.type T):=by decide +kernel)(u:Gl X x:=by rfl)
  (m:x≠"__name__":=by decide) (j:(x == ("__debug__":Str))=false:=by decide) (y:starEach (e::es) X.env=(false,eval e X.env)::starEach es X.env:=by exact bM rfl) (f:(backTo d (starEach es X.env)).any (·.1)=false:=by exact cB rfl):
  OE X md P (.Call (.Name x p) (e::es) [] d) (aU g ma):=(rT C u t hv E m j y f).imp λ_ _ _ q=>w5 q
def Lks.one{K:Frag}{H F:Hp}{f:List Addr}{vs:List V}{d:D}(h:Lks K H F f vs [d]):∃v,vs=[v]/\Lk K H F f v d:=by
 cases vs with
 |nil=>exact h.elim
 |cons v vs =>
  cases vs with
  |nil=>exact⟨v,rfl,h.1⟩
  |cons =>exact h.2.elim
def bc:List D->Option D
 | [.str l]=>if l.length<=1000000 then some (.int l.length) else none
 | [.lst ds]=>some (.int ds.length)
 | [.tup ds]=>some (.int ds.length)
 | _=>none
def WK:kO X (.builtin "len") bc:=by
 intro pins s σ H m t Q I u h;obtain⟨O,F,C,y,d,r,f,e,k⟩:=h;unfold bc at e;split at e
 ·obtain⟨v,rfl,j⟩:=f.one;split at e
  ·rename_i x;cases e;cases(j.rp rfl).unS;refine call_len _ s σ H _ t Q I u ⟨_,_,rfl,⟨by exact d8 x,rfl⟩,?_⟩;exact bL r k rfl Rp.int
  ·cases e
 ·obtain⟨v,rfl,j⟩:=f.one;cases e;obtain⟨p,m,rfl,h1,h2⟩:=j.list r.fh;refine call_len _ s σ H _ t Q I u ⟨_,_,rfl,.inl ⟨m,h1.sq,rfl⟩,?_⟩;rw[h2.length];exact bL r k rfl Rp.int
 ·obtain⟨v,rfl,j⟩:=f.one;cases e;obtain⟨p,m,rfl,h1,h2⟩:=(j.rp rfl).unT;refine call_len _ s σ H _ t Q I u ⟨_,_,rfl,.inr ⟨m,Same.seqT r.fh h1,rfl⟩,?_⟩;rw[h2.length];exact bL r k rfl Rp.int
 ·cases e
def WL:List D->Option D
 | [.int i,.int j]=>some (.int (if j>i then j else i))
 | _=>none
def WM:List D->Option D
 | [.int i,.int j]=>some (.int (if j<i then j else i))
 | _=>none
def Gd:List D->Option D
 | [.int i]=>some (.int i)
 | [.bl b]=>some (.int (if b then 1 else 0))
 | _=>none
def lW:List D->Option D
 | [.lst ds]=>some (.lst ds)
 | [.tup ds]=>some (.lst ds)
 | _=>none
def WN:kO X (.type "list") lW:=by
 intro pins s σ H j u Q I x h;obtain⟨O,F,C,y,d,r,f,e,k⟩:=h;unfold lW at e;split at e
 ·obtain⟨v,rfl,m⟩:=f.one;cases e;obtain⟨p,j,rfl,h1,h2⟩:=m.list r.fh;exact DP _ s σ H _ u Q I x ⟨p,j,rfl,.inl h1.sq,λl t=>km r k t h2⟩
 ·obtain⟨v,rfl,m⟩:=f.one;cases e;obtain⟨p,j,rfl,h1,h2⟩:=(m.rp rfl).unT;exact DP _ s σ H _ u Q I x ⟨p,j,rfl,.inr (Same.seqT r.fh h1),λl t=>km r k t h2⟩
 ·cases e
def jB:List D->Option (List Bool)
 | []=>some []
 | .bl b::ds=>(jB ds).map (b :: ·)
 | _=>none
theorem Rps.bools{K:Frag}{F:Hp}{f:List Addr}:∀{ds:List D}{xs:List V}{bs:List Bool},Rps K F f xs ds->jB ds=some bs->xs=bs.map V.bl
 | [],xs,bs,h,e=>by cases e;rw[h.un0];rfl
 |d::ds,xs,bs,h,e=>by
  obtain⟨x,r,rfl,h2,h3⟩:=h.un
  cases d with
  |bl b =>
   unfold jB at e
   cases q:jB ds with
   |none=>rw[q] at e;cases e
   |some cs =>
    rw[q] at e;cases e;rw[h2.unB,Rps.bools h3 q];rfl
  | _=>cases e
def sY:List D->Option D
 | [.lst ds]=>(jB ds).map λbs=>.bl (bs.all id)
 | _=>none
def WQ(x:X.calm=true):kO X (.builtin "all") sY:=by
 intro pins s σ H j m Q I t h;obtain⟨O,F,E,C,d,r,f,e,k⟩:=h;unfold sY at e;split at e
 ·rename_i y;obtain⟨v,rfl,u⟩:=f.one;obtain⟨p,j,rfl,h1,h2⟩:=u.list r.fh
  cases q:jB y with
  |none=>rw[q] at e;cases e
  |some bs =>
   rw[q] at e;cases e;refine Up x _ s σ H _ m Q I t ⟨p,bs,rfl,?_,bL r k rfl Rp.bl⟩;rw[<-h2.bools q];exact h1.sq
 ·cases e
def d9:List D->Option (List Int)
 | []=>some []
 | .int b::ds=>(d9 ds).map (b :: ·)
 | _=>none
theorem Rps.ints{K:Frag}{F:Hp}{f:List Addr}:∀{ds:List D}{xs:List V}{bs:List Int},Rps K F f xs ds->d9 ds=some bs->xs=bs.map V.int
 | [],xs,bs,h,e=>by cases e;rw[h.un0];rfl
 |d::ds,xs,bs,h,e=>by
  obtain⟨x,r,rfl,h2,h3⟩:=h.un
  cases d with
  |int b =>
   unfold d9 at e
   cases q:d9 ds with
   |none=>rw[q] at e;cases e
   |some cs =>
    rw[q] at e;cases e;rw[h2.unI,Rps.ints h3 q];rfl
  | _=>cases e
def nQ:List D->Option D
 | [.lst ds]=>(d9 ds).bind λns=>if(ns.all (λn=>decide (0<=n)&&decide (n<=1000000))&&decide (ns.length<=1000000))=true then some (.int ns.sum) else none
 | _=>none
def WR(C:X.calm=true):kO X (.builtin "sum") nQ:=by
 intro pins s σ H m t Q I u h;obtain⟨O,F,J,G,d,r,j,e,k⟩:=h;unfold nQ at e;split at e
 ·rename_i E;obtain⟨v,rfl,x⟩:=j.one;obtain⟨p,m,rfl,h1,h2⟩:=x.list r.fh
  cases q:d9 E with
  |none=>rw[q] at e;cases e
  |some ns =>
   rw[q] at e
   dsimp   at e
   split at e
   ·rename_i f;rw[zD,decide_eq_true_eq,jj] at f;cases e;refine Uq C _ s σ H _ t Q I u ⟨p,ns,rfl,?_,λn y=>?_,f.2,bL r k rfl Rp.int⟩
    ·rw[<-h2.ints q];exact h1.sq
    ·have:=f.1 n y
     rw[zD,decide_eq_true_eq,decide_eq_true_eq] at this;exact this
   ·cases e
 ·cases e
def WT:bootBuiltins "len" = some (.builtin "len"):=by decide
def WW:bootBuiltins "max" = some (.builtin "max"):=by decide
def WX:bootBuiltins "all" = some (.builtin "all"):=by decide
def WY:bootBuiltins "sum" = some (.builtin "sum"):=by decide
def W0:bootBuiltins "int" = some (.type "int"):=by decide
def Ge:bootBuiltins "str" = some (.type "str"):=by decide
def W2:bootBuiltins "bool" = some (.type "bool"):=by decide
def w6:bootBuiltins "list" = some (.type "list"):=by decide
def tyD:D->Option String
 | .non=>some "NoneType"
 | .bl _=>some "bool"
 | .int _=>some "int"
 | .str _=>some "str"
 | .lst _=>some "list"
 | .tup _=>some "tuple"
 | .dic _ _=>some "dict"
 | .ob _=>none
def dg(t n:String):Bool:=t == n || (t == "bool" && n == "int")
def gn(n:String)(m:M D):M D:=λρ O=>(m ρ O).bind λd f=>match tyD (aV f d) with
 |some t=>.ok (.bl (dg t n)) f
 |none=>.no
def xf:List String:=["str","int","bool","list","tuple","dict"]
def W3(K:Frag):∀d t,tyD d=some t->∀n∈xf,PySem.W.kitOne K (.type t) (.type n)=some (dg t n):=by
 intro d t e n f;simp  [xf,or_false] at f
 cases d<;>cases e<;>rcases f with rfl | rfl | rfl | rfl | rfl | rfl<;>first | exact Uy  | kernel_rfl
def Lk.ty{K:Frag}      (h:Lk K H F as v d)(fh:Same F H)(e:tyD d=some t):TyQ K H v t:=by
 cases d with
 |non=>cases e;rw[(h.rp rfl).unN];exact .non
 |bl b=>cases e;rw[(h.rp rfl).unB];exact .bl _
 |int b=>cases e;rw[(h.rp rfl).unI];exact .int _
 |str b=>cases e;rw[(h.rp rfl).unS];exact .str _
 |lst j=>cases e;obtain⟨p,f,rfl,h1,h2⟩:=h.list fh;exact .lst h1.sq
 |tup j=>cases e;obtain⟨p,f,rfl,h1,h2⟩:=(h.rp rfl).unT;exact .tup (Same.seqT fh h1)
 |dic u m=>cases e;obtain⟨p,f,rfl,h1,h2⟩:=(h.rp rfl).unD;exact .dK (fh _ _ h1)
 |ob n=>cases e
def sZ(n:String)   {p f j:Pos}  (W:X.mg "isinstance" = none)(Z:X.mg T=none)(h:SE X md P a m)(hb:bootBuiltins T=some (.type n):=by decide +kernel)(U:n∈xf:=by decide)(Y:Gl X "isinstance":=by rfl)(C:Gl X T:=by rfl)
  (E:T≠"__name__":=by decide) (G:(T == ("__debug__":Str))=false:=by decide)
  (u:starEach [a,.Name T f] X.env=(false,eval a X.env)::starEach [.Name T f] X.env:=by exact bM rfl) (hs2:starEach [.Name T f] X.env=(false,eval (.Name T f) X.env)::starEach [] X.env:=by rfl) (hpl:(backTo j (starEach [.Name T f] X.env)).any (·.1)=false:=by exact cB rfl):
  OE X md P (.Call (.Name "isinstance" p) [a,.Name T f] [] j) (gn n m):=
 (wB (Ux _) Y W (by decide ) (dY h (dY (PL (v:=.ty n) C Z hb rfl E G) fC) u) (by decide) (by decide) u).imp λσ H Q q=>by
  obtain⟨ρ,O,F,as,d,O',r,s,e,k⟩:=q;obtain⟨x,O1,e1,e⟩:=Res.bind_ok e;split at e
  ·rename_i t J;cases e;refine⟨ρ,_,F,as,_,_,r,s,e1,λv H1 F1 I g1 y L=>?_⟩;exact⟨v,n,t,_,rfl,Lk.ty (Sv.lk L y) y.fh J,W3 _ _ t J n U,k _ H1 F1 I g1 y (.inl ⟨rfl,Rp.bl⟩)⟩
  ·cases e
noncomputable def tD(m:M D):M (List D):=λρ O=>(m ρ O).bind λd f=>match d with
 | .lst ds=>.ok ds f
 | _=>.no
noncomputable def xg(m:M D):M (List D):=λρ O=>(m ρ O).bind λd f=>match d with
 | .tup ds=>.ok ds f
 | _=>.no
def W4{K:Frag}       (hs:Rps K F E xs ds)(u:∀(j m:Hp) (f:List Addr),GrS P H F E j m f->(∃O,RlO K mg O j m f)->RdK K j a xs):lR K mg P (Itl K a) ds H F E:=by
 refine⟨λi d j m f g r e=>?_,λj m f g r=>⟨xs,(u j m _ g r).sq,by rw[hs.length];exact zc _⟩⟩;obtain⟨x,h1,h2⟩:=hs.get' e;have q:=u j m _ g r;refine⟨⟨xs,x,q.sq,h1⟩,λy C t=>?_⟩;obtain⟨rfl,t⟩:=t
 have:=t xs q.sq
 rw[h1] at this;cases this;exact⟨m,Gr.refl,λ_ r=>r,h2.grS g⟩
end
def Inv.turnL{σ:St}{ch:List Addr}   (I:Inv X L σ H s)(f:∀b∈ch,fB X L H b)(k:∀b o,b∉ch->s.heap.get? b=some o->h'.get? b=some o):Inv X L σ H {s with heap:=h',toks:=t'}:=by
 have j:∀b u,H b=some u->b∉ch:=λb u e z=>by rw[(f b z).1] at e;cases e
 refine I.step (g':=s.gens) (d':=s.drawn) (ch:=ch) (λb y=>?_) (λb o _ _ d e _=>k b o d e) (λb o _ _ d e _=>⟨o.slots,k b o d e⟩) (λ_ _ _ _ n=>n)
  (λb o d e=>⟨o,k b o d e⟩) (λ_ _ e=>e) (λ_ _ _ e=>e) (λb G e=>⟨#[],by rw[e];simp⟩) (λm x=>?_) (λb u e=>?_) I.bare
 ·obtain⟨f0,C,J,f3,f4,f5⟩:=f b y;exact⟨f3,C,f4,f5⟩
 ·obtain⟨o,E,F,t,r⟩:=x;exact⟨o,E,F,k _ o (λz=>(f _ z).2.1 rfl) t,r⟩
 ·refine(I.hok b u e).stay (λc v d q=>k c v ?_ q) (λ_ q=>q) λ_ _ q=>q
  rcases d with z | z
  ·rw[z];exact j b u e
  ·exact j c _ z
def Inv.turnT{σ:St}{ch:List Addr}   {T:Addr}   (I:Inv X Q σ H s)(f:∀b∈ch,fB X Q H b)(k:∀b o,b∉ch->s.heap.get? b=some o->h'.get? b=some o)
  (y:s.heap.objs.size<=T) (new:IsTup h' T us.toArray) (hv:aF vs us) (hz:vs.length<=sizeLine):Inv X Q σ (upd H T (.tup vs)) {s with heap:=h',toks:=t'}:=by
 have j:H T=none:=I.hok.fresh y
 have t:∀b u,H b=some u->b∉ch:=λb u e z=>by rw[(f b z).1] at e;cases e
 have ne:∀b o,s.heap.get? b=some o->b≠T:=λb o e z=>by
  subst z;exact absurd (zl e) (Nat.not_lt_of_le y)
 refine I.step (g':=s.gens) (d':=s.drawn) (ch:=ch) (λb x=>?_) (λb o _ _ d e _=>k b o d e) (λb o _ _ d e _=>⟨o.slots,k b o d e⟩) (λb o _ e n=>by rw[aD (ne b o e)];exact n)
  (λb o d e=>⟨o,k b o d e⟩) (λb _ e=>by rw[aD (bT e j)];exact e) (λb _ _ e=>by rw[aD (bT e j)];exact e) (λb O e=>⟨#[],by rw[aD (bT e j),e];simp⟩) (λm E=>?_) (λb u e=>?_) I.bare
 ·obtain⟨f0,F,P,f3,f4,f5⟩:=f b x;exact⟨f3,F,f4,f5⟩
 ·obtain⟨o,G,J,C,r⟩:=E;exact⟨o,G,J,k _ o (λz=>(f _ z).2.1 rfl) C,r⟩
 ·by_cases x:b=T
  ·subst x;rw[bx] at e;cases e;exact⟨hz,us,hv,new⟩
  ·rw[aD x] at e
   refine(I.hok b u e).stay (λc v d q=>k c v ?_ q) (λc q=>by rw[aD (bT q j)];exact q) λc L q=>by rw[aD (bT q j)];exact q
   rcases d with z | z
   ·rw[z];exact t b u e
   ·exact t c _ z
def Ite(K:Frag)(l:Addr):It:=⟨λi H=>∃d x,SqL K H l d/\d[i]?=some x,λi H v f=>∃T x,v=.ref T/\H T=none/\f=upd H T (.tup [.int i,x])/\∀d,SqL K H l d->d[i]?=some x,λi H=>∃d,SqL K H l d/\d.length<=i⟩
def Gf(l:List Nat):It:=⟨λi _=>i<l.length,λi H v d=>∃T c,v=.ref T/\H T=none/\d=upd H T (.tup [.int i,.str (S [c])])/\l[i]?=some c,λi _=>l.length<=i⟩
def tE{h:Heap}    (e:h.get? b=some o)(d:o.data=.fields vs):∃o,h.get? b=some o/\∀v,o.data≠.cell v:=⟨o,e,λv z=>by rw[d] at z;cases z⟩
def W5   {K:Frag}    (e it l:Addr)(hne:e≠it):Turn P w K (.Tuple elts x1 pos) (Ite K l) [e,it] e (λi h=>(∃old,IsEnum h e it i old)/\h.IsListIter it l i) where
 mem:=by simp
 obj:=λi h st b hb=>by
  obtain⟨⟨old,he⟩,o,ho,hc,hd⟩:=st
  rcases zk.mp hb with rfl | hb
  ·exact tE he rfl
  ·rw[zh.mp hb];exact tE ho hd
 keep:=λi h h' st k=>by
  obtain⟨⟨old,he⟩,o,ho,r⟩:=st;exact⟨⟨old,k e (by simp) _ he⟩,o,k it (by simp) o ho,r⟩
 item:=by
  intro X hP hw hK hc i pins s σ H E I hf st hg;subst hP hw hK;obtain⟨⟨old,he⟩,hit⟩:=st;obtain⟨xs,x,hq,hx⟩:=hg;obtain⟨its,rv,pl,hz⟩:=I.list hq;obtain⟨u,hu,ru⟩:=rv.get hx;have hT:H s.heap.objs.size=none:=I.hok.fresh (zc _);have elt:e<s.heap.objs.size:=zl he
  refine wpAny_pyNext_enum_item he hit pl.isList (x:=u) (by simpa using hu) hne λh' ho hit' hTup hsz hk=>⟨_,rfl,?_⟩
  refine wpAny_letOwnedTupleGo_enum ho λh'' he'' hs''=>⟨.ref s.heap.objs.size,_,?_,rfl,⟨s.heap.objs.size,x,rfl,hT,rfl,λys hy=>by rw[I.list_inj hy hq];exact hx⟩,⟨⟨_,by simpa using he''⟩,hit'.extBut hs''.extBut (Ne.symm hne)⟩,λb hb=>?_⟩
  ·show Inv X pins σ _ {s with heap:=h'',toks:=s.toks+1};refine I.turnT (ch:=[e,it]) (us:=[.int i s.toks,u]) hf (λb o hb q=>?_) (zc _) ⟨_,hs''.extBut _ _ (Nat.ne_of_gt elt) hTup,rfl,_,rfl⟩ (.cons ⟨_,rfl⟩ (.cons ru .nil)) (by show 2<=sizeLine;decide)
   have h1:b≠e:=λz=>hb (by simp[z])
   have h2:b≠it:=λz=>hb (by simp[z])
   exact hs''.extBut _ _ h1 (hk b o h1 h2 q)
  ·have q:=hf b hb;rw[aD (λz=>?_)]
   ·exact q.1
   ·obtain⟨o,ho⟩:∃o,s.heap.get? b=some o:=by
     rcases zk.mp hb with rfl | hb
     ·exact⟨_,he⟩
     ·rw[zh.mp hb];obtain⟨o,ho,_⟩:=hit;exact⟨o,ho⟩
    exact absurd (zl ho) (by rw[z];exact zV _)
 done:=by
  intro X hP hw hK hc i pins s σ H E I hf st hg;subst hP hw hK;obtain⟨⟨old,he⟩,hit⟩:=st;obtain⟨xs,hq,hl⟩:=hg;obtain⟨its,rv,pl,hz⟩:=I.list hq
  refine wpAny_pyNext_enum_end (I.ok.hd hc) he hit pl.isList (by have:=rv.length;simp;omega) λh' hx=>⟨rfl,?_⟩
  exact I.turnL (t':=s.toks) (ch:=[e,it]) hf λb o hb q=>hx b o (λz=>hb (by simp[z])) q
 self:=λA i s Q E st h=>by
  obtain⟨⟨old,he⟩,_⟩:=st;exact wpAny_pyIter_enum he h
def W6   {K:Frag}    (e it:Addr)(l:List Nat)(t:Tok)(hne:e≠it):Turn P w K (.Tuple elts x1 pos) (Gf l) [e,it] e (λi h=>(∃old,IsEnum h e it i old)/\h.IsStrIter it "str_ascii_iterator" (S l) t i) where
 mem:=by simp
 obj:=λi h st b hb=>by
  obtain⟨⟨old,he⟩,o,ho,hc,hd⟩:=st
  rcases zk.mp hb with rfl | hb
  ·exact tE he rfl
  ·rw[zh.mp hb];exact tE ho hd
 keep:=λi h h' st k=>by
  obtain⟨⟨old,he⟩,o,ho,r⟩:=st;exact⟨⟨old,k e (by simp) _ he⟩,o,k it (by simp) o ho,r⟩
 item:=by
  intro X hP hw hK hc i pins s σ H E I hf st hg;subst hP hw hK;obtain⟨⟨old,he⟩,hit⟩:=st;have hg':i<l.length:=hg;have hT:H s.heap.objs.size=none:=I.hok.fresh (zc _);have elt:e<s.heap.objs.size:=zl he;have hd:X.A.in1.handled=none:=I.ok.hd hc
  refine wpAny_pyNext_enum_itemD (Draws.strAscii hd it (S l) t) he hit (by simpa [S] using hg') hne (λz=>hne (by simpa using z)) λu h' tk hP ho hit' hTup hsz hk=>⟨_,rfl,?_⟩
  obtain⟨c,tc,hcx,rfl⟩:=hP
  have hcl:l[i]?=some c:=by
   rw[<-hcx];simp[S]
  refine wpAny_letOwnedTupleGo_enum ho λh'' he'' hs''=>⟨.ref s.heap.objs.size,_,?_,rfl,⟨s.heap.objs.size,c,rfl,hT,rfl,hcl⟩,⟨⟨_,by simpa using he''⟩,?_⟩,λb hb=>?_⟩
  ·show Inv X pins σ _ {s with heap:=h'',toks:=tk+1};refine I.turnT (ch:=[e,it]) (us:=[.int i tk,.str ⟨#[c]⟩ tc]) hf (λb o hb q=>?_) (zc _) ⟨_,hs''.extBut _ _ (Nat.ne_of_gt elt) hTup,rfl,_,rfl⟩ (.cons ⟨_,rfl⟩ (.cons ⟨_,rfl⟩ .nil)) (by show 2<=sizeLine;decide)
   have h1:b≠e:=λz=>hb (by simp[z])
   have h2:b≠it:=λz=>hb (by simp[z])
   exact hs''.extBut _ _ h1 (hk b o h1 h2 q)
  ·obtain⟨o,ho',r⟩:=hit';exact⟨o,hs''.extBut _ _ (Ne.symm hne) ho',r⟩
  ·have q:=hf b hb;rw[aD (λz=>?_)]
   ·exact q.1
   ·obtain⟨o,ho⟩:∃o,s.heap.get? b=some o:=by
     rcases zk.mp hb with rfl | hb
     ·exact⟨_,he⟩
     ·rw[zh.mp hb];obtain⟨o,ho,_⟩:=hit;exact⟨o,ho⟩
    exact absurd (zl ho) (by rw[z];exact zV _)
 done:=by
  intro X hP hw hK hc i pins s σ H E I hf st hg;subst hP hw hK;obtain⟨⟨old,he⟩,hit⟩:=st;have hd:X.A.in1.handled=none:=I.ok.hd hc;have hg':l.length<=i:=hg;have hT:s.TypeIs (.ref e) "enumerate":=⟨_,he,rfl⟩;unfold pyNext
  refine za (wpAny_attempt (wpAny_callSpecial?_slot (name:=Str.ofString "__next__") hT F.slot_enumerate_next
   (wpAny_call_entry F.slot_enumerate_next hT F.entry_enumerate_next ?_ (F.args_enumerate_next_1 _))))
  show wpAny _ _ (field (.ref e) 2 >>= _) _ _ _;refine za (wpAny_field he rfl (x:=.ref it) rfl ?_);refine za (wpAny_nextOf_ascii_end hd hit (by simp[S];exact hg') λh' x he' hx'=>?_);obtain⟨o,ho,hc⟩:=hx';refine za (wpAny_isInstance (T:="StopIteration") (b:=true) ⟨o,ho,hc⟩ isSubtype_stop ?_);exact zb ⟨rfl,I.turnL (t':=s.toks) (ch:=[e,it]) hf λb o hb q=>he' b o (λz=>hb (by simp[z])) q⟩
 self:=λA i s Q E st h=>by
  obtain⟨⟨old,he⟩,_⟩:=st;exact wpAny_pyIter_enum he h
def W8(K:Frag)(m:TA):TI:=λσ H R=>m σ H λj d=>∃a,j=[.ref a]/\(∃f,SqL K d a f)/\R (Ite K a) d
def W9(f:TA):TI:=λσ H R=>f σ H λd j=>∃l,d=[.str (S l)]/\ascii l=true/\R (Gf l) j
def Xa  (h:ascii l=true):strIterType (S l) = "str_ascii_iterator":=by
 unfold strIterType;rw[if_pos];unfold ascii at h;rw[jj] at h;simp[S];intro i d;simpa using h i d
def Xb    (C:Gl X "enumerate")(x:X.mg "enumerate" = none)(E:PA X [a] Q)(hs:starEach [a] X.env=[(false,eval a X.env)]:=by exact nH rfl):PI X (.Tuple elts x1 tpos) (.Call (.Name "enumerate" p) [a] [] pos) (W8 X.K Q):=by
 intro pins s σ H R I h;refine Call_ (jZ I C x boot_enumerate (PyProof.Rows.callWith_type1 (thn (E _ _ s σ H _ I h) λus s1 ⟨vs,H1,I1,r1,q1⟩=>?_) hs));obtain⟨l,e,⟨J,t⟩,q⟩:=q1;subst e;obtain⟨u,rfl,m⟩:=vals1 r1;cases m;obtain⟨F,L,pl,O⟩:=I1.list t
 refine call_enumerate_list pl.isList λP j f G y=>wpAny_pyIter_enum j ?_
 refine⟨s1.heap.objs.size+1,[s1.heap.objs.size+1,s1.heap.objs.size],_,_,H1,rfl,I1.kept y,W5 _ _ l (Nat.succ_ne_self _),⟨⟨_,j⟩,f⟩,λb d=>?_,q⟩
 have hb':s1.heap.objs.size<=b:=by
  rcases zk.mp d with rfl | d
  ·exact Nat.le_succ _
  ·rw[zh.mp d];exact zc _
 exact I1.fpOk hb' (I1.hok.fresh hb')
def Xd    (C:Gl X "enumerate")(m:X.mg "enumerate" = none)(E:PA X [a] J)(hs:starEach [a] X.env=[(false,eval a X.env)]:=by exact nH rfl):PI X (.Tuple elts x1 tpos) (.Call (.Name "enumerate" p) [a] [] pos) (W9 J):=by
 intro pins s σ H R I h;refine Call_ (jZ I C m boot_enumerate (PyProof.Rows.callWith_type1 (thn (E _ _ s σ H _ I h) λus s1 ⟨vs,H1,I1,r1,q1⟩=>?_) hs));obtain⟨l,e,x,q⟩:=q1;subst e;obtain⟨u,rfl,t,rfl⟩:=vals1 r1
 refine call_enumerate_str λG j d F y=>wpAny_pyIter_enum j ?_
 rw[Xa x] at d;refine⟨s1.heap.objs.size+1,[s1.heap.objs.size+1,s1.heap.objs.size],_,_,H1,rfl,I1.kept y,W6 _ _ l t (Nat.succ_ne_self _),⟨⟨_,j⟩,d⟩,λb f=>?_,q⟩
 have hb':s1.heap.objs.size<=b:=by
  rcases zk.mp f with rfl | f
  ·exact Nat.le_succ _
  ·rw[zh.mp f];exact zc _
 exact I1.fpOk hb' (I1.hok.fresh hb')
def rW(K:Frag)(P:Pt):RR:=λ_ H F f v d=>Rp K F f v d\/∃a j m,v=.ref a/\d=.lst m/\H a=some (.lst j)/\a∉f/\P a/\Rps K F f j m
def WE(X:Cx)(md:List Md)(P:Pt)(e:Expr)(m:M D):Prop:=PE X e (tM X.K X.mg md P (rW X.K P) m)
def Xe   (h:VE X md P e m):WE X md P e m:=h.imp λσ H Q q=>by
 obtain⟨ρ,O,F,t,d,u,r,s,e,k⟩:=q;exact⟨ρ,O,F,t,d,u,r,s,e,λv x y C g f j=>k v x y _ g f (.inl j)⟩
def Xf{X:Cx}{P:Pt}(i:Nat){x:Str}{f:Pos}(t:md[i]?=some .s:=by rfl)(hN:X.N[i]?=some x:=by rfl)(m:Vis X.env.scope x:=by first | exact Or.inl rfl | exact Or.inr (Or.inl rfl) | exact Or.inr (Or.inr rfl))
  (hd:(x == ("__debug__":Str))=false:=by decide) (j:(x == ("__classdict__":Str))=false:=by decide):WE X md P (.Name x f) (aa i):=by
 refine(jY hN m hd j).imp λσ H Q h=>?_
 obtain⟨ρ,O,F,y,d,C,r,s,e,k⟩:=h;obtain⟨u,rfl⟩:=pR e;obtain⟨v,h2,h3⟩:=s.sl i .s d t u;exact⟨v,h2,k v H F y Gr.refl r h3⟩
def Gg{K:Frag}       (hv:rW K P N H F C v (.lst ds)):
  ∃a xs,v=.ref a/\Rps K F C xs ds/\∀(f j:Hp) (d:List Addr),GrS P H F C f j d->(∃O,RlO K mg O f j d)->RdK K f a xs:=by
 rcases hv with hv | ⟨a,xs,y,rfl,e,x,u,t,m⟩
 ·obtain⟨a,xs,rfl,h1,h2⟩:=hv.unL;exact⟨a,xs,rfl,h2,λf j d g ⟨O,r⟩=>(h1.mono g.ff).mono r.fh⟩
 ·cases e;exact⟨a,xs,rfl,m,λf j d g _=>.inl (.inl (g.fr _ _ t x u rfl))⟩
theorem Xg   (h:WE X md P e m):VI X md P tg e (tD m):=(vU h).imp λσ H Q q=>by
 obtain⟨ρ,O,F,E,I,L,r,s,e,k⟩:=q;obtain⟨d,J,C,e⟩:=Res.bind_ok e
 cases d with
 |lst  =>
  cases e;refine⟨ρ,_,F,E,_,_,r,s,C,λv j t G y f x=>?_⟩;obtain⟨a,u,rfl,h1,h2⟩:=Gg x;exact⟨a,rfl,⟨u,(h2 j t _ GrS.refl ⟨_,f⟩).sq⟩,k _ j t _ y f (W4 h1 h2)⟩
 | _=>cases e
theorem Gh   (h:VE X md P e m):VI X md P tg e (xg m):=(QQ h).imp λσ H Q q=>by
 obtain⟨ρ,O,F,W,Y,O',r,s,e,k⟩:=q;obtain⟨d,Z,U,e⟩:=Res.bind_ok e
 cases d with
 |tup  =>
  cases e;refine⟨ρ,_,F,W,_,_,r,s,U,λv G I J T L R=>?_⟩;obtain⟨a,u,rfl,h1,h2⟩:=Rp.unT R
  have E:∀(j t ) (f ),GrS P G I J j t f->(∃O,RlO X.K X.mg O j t f)->SqT _ j a u:=λj t f g ⟨O,r⟩=>Same.seqT r.fh (Same.seqT g.ff h1)
  refine⟨a,rfl,⟨u,E G I _ GrS.refl ⟨_,L⟩⟩,k _ G I _ T L ⟨λi d j t f g r e=>?_,λj t f g r=>⟨u,E j t _ g r,by rw[h2.length];exact zc _⟩⟩⟩;obtain⟨x,h3,h4⟩:=h2.get' e;have q:=E j t _ g r;refine⟨⟨u,x,q,h3⟩,λy H3 C=>?_⟩;obtain⟨rfl,C⟩:=C
  have:=C u q
  rw[h3] at this;cases this;exact⟨t,Gr.refl,λ_ r=>r,h4.grS g⟩
 | _=>cases e
def cA(l:List Nat):List D:=l.map λc=>.str [c]
def xj(m:M D):M (List D):=λρ O=>(m ρ O).bind λd f=>match d with
 | .str l=>if ascii l=true then .ok (cA l) f else .no
 | _=>.no
def xn{K:Frag}      (h1:∀(i:Nat) (d:D) (f:Hp),ds[i]?=some d->J.go i f/\∀x j,J.yld i f x j->j=f/\∀K F m,Rp K F m x d)(h2:∀f,J.stop ds.length f):lR K mg P J ds H F m :=
 ⟨λi d f t u _ _ e=>⟨(h1 i d f e).1,λx j y=>by
  obtain⟨rfl,hx⟩:=(h1 i d f e).2 x j y
  exact⟨t,Gr.refl,λ_ r=>r,hx _ _ _⟩⟩,λf _ _ _ _=>h2 f⟩
theorem Gi   (h:SE X md P e m):VI X md P tg e (xj m):=(Uo h).imp λσ H Q q=>by
 obtain⟨ρ,O,F,G,T,Y,r,s,e,k⟩:=q;obtain⟨d,W,f,e⟩:=Res.bind_ok e
 cases d with
 |str l =>
  dsimp  at e
  split at e
  ·rename_i C;cases e;refine⟨ρ,_,F,G,_,_,r,s,f,λv J L R E t u=>?_⟩;refine⟨l,(Sv.rp u rfl).unS,C,k _ J L _ E t (xn (λi d I e=>?_) λI=>by simp[cA,Its])⟩;unfold cA at e;rw[zC] at e
   cases q:l[i]? with
   |none=>rw[q] at e;cases e
   |some c =>
    rw[q] at e;cases e;refine⟨(zu.mp q).1,λx Z y=>?_⟩;obtain⟨f,U,j,rfl⟩:=y;rw[q] at j;cases j;exact⟨f,λ_ _ _=>Rp.str⟩
  ·cases e
 | _=>cases e
def fY(lo:Int)(n:Nat):List D:=(List.range n).map λ(k:Nat)=>.int (lo+(k:Int))
def eE(m:M (List D)):M (List D):=λρ O=>(m ρ O).bind λd f=>match d with
 | [.int j]=>if j<=1000000000/\-1000000000<=j then .ok (fY 0 j.toNat) f else .no
 | _=>.no
def Xh{K:Frag}  {lo:Int}   :lR K mg P (Itr lo n) (fY lo n) H F u:=xn (λi d m e=>by
 unfold fY at e;rw[zC] at e
 by_cases f:i<n
 ·rw[List.getElem?_range f] at e;cases e;refine⟨f,λx t y=>?_⟩;obtain⟨j,rfl⟩:=y;exact⟨j,λ_ _ _=>Rp.int⟩
 ·rw[jq (by simpa using f)] at e
  cases e) λm=>by simp[fY,Itr]
def bN.one{K:Frag}{H F:Hp}{f:List Addr}{m:Md}{vs:List V}{d:D}(h:bN K H F f [m] vs [d]):∃v,vs=[v]/\rA K m (λ_=>True) H F f v d:=by
 cases vs with
 |nil=>exact h.elim
 |cons v vs =>
  cases vs with
  |nil=>exact⟨v,rfl,h.1⟩
  |cons =>exact h.2.elim
def bN.two{K:Frag}{H F:Hp}{f:List Addr}{m n:Md}{vs:List V}{d e:D}(h:bN K H F f [m,n] vs [d,e]):∃v u,vs=[v,u]/\rA K m (λ_=>True) H F f v d/\rA K n (λ_=>True) H F f u e:=by
 cases vs with
 |nil=>exact h.elim
 |cons v vs =>
  cases vs with
  |nil=>exact h.2.elim
  |cons u us =>
   cases us with
   |nil=>exact⟨v,u,rfl,h.1,h.2.1⟩
   |cons w j=>exact h.2.2.elim
def Xi{t:Expr}{p d:Pos}  (y:X.mg "range" = none)(E:AE X md P [.s] [a] m)(C:Gl X "range":=by rfl)(hs:starEach [a] X.env=[(false,eval a X.env)]:=by exact nH rfl):VI X md P t (.Call (.Name "range" p) [a] [] d) (eE m):=(QT C y E hs).imp λσ H Q q=>by
 obtain⟨ρ,O,F,J,Y,O',r,s,e,k⟩:=q;obtain⟨W,Z,I,e⟩:=Res.bind_ok e;split at e
 ·rename_i j;split at e
  ·cases e;refine⟨ρ,_,F,J,_,_,r,s,I,λU L R T G u x=>?_⟩;obtain⟨v,rfl,f⟩:=x.one
   have:=(Sv.rp f rfl).unI
   subst this;exact⟨j,rfl,by omega,by omega,k _ L R _ G u Xh⟩
  ·cases e
 ·cases e
def cQ:Nat->List D->List D
 | _,[]=>[]
 |k,d::ds=>.tup [.int k,d]::cQ (k+1) ds
theorem tG:∀(k:Nat) (ds:List D),(cQ k ds).length=ds.length
 | _,[]=>rfl
 |k,d::ds=>by simp[cQ,tG ]
theorem tH:∀(k:Nat) (ds:List D) (i:Nat),(cQ k ds)[i]?=(ds[i]?).map λd=>.tup [.int ((k+i:Nat):Int),d]
 |k,[],i=>by simp[cQ]
 |k,d::ds,0=>by simp[cQ]
 |k,d::ds,i+1=>by
  rw[cQ,jr,tH ];congr 1
  funext d
  congr 3;omega
def Gj{K:Frag}       (t:∃O,RlO K mg O E C y)(d:E T=none)(hx:Rps K C y xs ds):
  ∃j,Gr E C y (upd E T (.tup xs)) j y/\(∀O,RlO K mg O E C y->RlO K mg O (upd E T (.tup xs)) j y)/\Rp K j y (.ref T) (.tup ds):=by
 obtain⟨O,r⟩:=t;have f:=r.frF d
 have ff:Same C (upd C T (.tup xs)):=λb u q=>by rw[aD (bT q f)];exact q
 exact⟨upd C T _,(Gr.lay d).frz d f,λx m=>(m.lay d).frz bx f (λz=>m.all z d) rfl,Rp.mkT (.inl bx) (Rps.mono ff (λ_ _ z=>z) _ hx)⟩
def Gk(m:M D):M (List D):=λρ O=>(m ρ O).bind λd f=>match d with
 | .lst ds=>.ok (cQ 0 ds) f
 | _=>.no
def Gm(m:M D):M (List D):=λρ O=>(m ρ O).bind λd f=>match d with
 | .str l=>if ascii l=true then .ok (cQ 0 (cA l)) f else .no
 | _=>.no
def Xj{elts:List Expr}{W:Nat}{f:Pos}  {p C:Pos}  (hm:X.mg "enumerate" = none)(h:WE X md P a m)(hg:Gl X "enumerate":=by rfl)(hs:starEach [a] X.env=[(false,eval a X.env)]:=by exact nH rfl)(G:starEach [a] X.env=(false,eval a X.env)::starEach [] X.env:=by exact bM rfl):
  VI X md P (.Tuple elts W f) (.Call (.Name "enumerate" p) [a] [] C) (Gk m):=(Xb hg hm (dY h fC G) hs).imp λσ H Q q=>by
 obtain⟨ρ,O,F,as,ds,O',r,s,e,k⟩:=q;obtain⟨d,O1,e1,e⟩:=Res.bind_ok e
 cases d with
 |lst es =>
  cases e;refine⟨ρ,_,F,as,_,_,r,s,e1,λv R U as1 g1 J Z=>?_⟩;obtain⟨a,j,rfl,h1,h2⟩:=Gg Z;refine⟨a,rfl,⟨j,(h2 R U _ GrS.refl ⟨_,J⟩).sq⟩,k _ R U _ g1 J ⟨λi d t u I g r e=>?_,λt u I g r=>⟨j,(h2 t u _ g r).sq,by rw[tG,h1.length];exact zc _⟩⟩⟩;rw[tH] at e
  cases q:es[i]? with
  |none=>rw[q] at e;cases e
  |some y =>
   rw[q] at e;cases e;obtain⟨x,h3,h4⟩:=h1.get' q;have L:=h2 t u _ g r;refine⟨⟨j,x,L.sq,h3⟩,λz H3 Y=>?_⟩;obtain⟨T,x',rfl,hT,rfl,E⟩:=Y
   have:=E j L.sq
   rw[h3] at this;cases this;rw[jo];exact Gj r hT (Rps.cons Rp.int (Rps.cons (h4.grS g) Rps.nil))
 | _=>cases e
def Xk{elts:List Expr}{y:Nat}{j:Pos}  {p t:Pos}  (I:X.mg "enumerate" = none)(h:SE X md P a m)(L:Gl X "enumerate":=by rfl)(hs:starEach [a] X.env=[(false,eval a X.env)]:=by exact nH rfl)(u:starEach [a] X.env=(false,eval a X.env)::starEach [] X.env:=by exact bM rfl):
  VI X md P (.Tuple elts y j) (.Call (.Name "enumerate" p) [a] [] t) (Gm m):=(Xd L I (dY h fC u) hs).imp λσ H Q q=>by
 obtain⟨ρ,O,F,Y,ds,O',r,s,e,k⟩:=q;obtain⟨d,O1,W,e⟩:=Res.bind_ok e
 cases d with
 |str l =>
  dsimp  at e
  split at e
  ·rename_i J;cases e;refine⟨ρ,_,F,Y,_,_,r,s,W,λv H1 F1 as1 U C G=>?_⟩;refine⟨l,by rw[(Sv.rp G rfl).unS],J,k _ H1 F1 _ U C ⟨λi d Z F2 x g r e=>?_,λZ F2 x g r=>?_⟩⟩
   ·rw[tH] at e;unfold cA at e;rw[zC] at e
    cases q:l[i]? with
    |none=>rw[q] at e;cases e
    |some c =>
     rw[q] at e;cases e;refine⟨(zu.mp q).1,λz H3 E=>?_⟩;obtain⟨T,c',rfl,R,rfl,f⟩:=E;rw[q] at f;cases f;rw[jo];exact Gj r R (Rps.cons Rp.int (Rps.cons Rp.str Rps.nil))
   ·show l.length<=_;rw[tG];simp[cA]
  ·cases e
 | _=>cases e
def fG:List D->Option (List (List Nat))
 | []=>some []
 | .str l::ds=>(fG ds).map (l :: ·)
 | _=>none
theorem Rps.strs{K:Frag}{F:Hp}{f:List Addr}:∀{ds:List D}{xs:List V}{ls:List (List Nat)},Rps K F f xs ds->fG ds=some ls->xs=ls.map λl=>V.str (S l)
 | [],xs,bs,h,e=>by cases e;rw[h.un0];rfl
 |d::ds,xs,bs,h,e=>by
  obtain⟨x,r,rfl,h2,h3⟩:=h.un
  cases d with
  |str b =>
   unfold fG at e
   cases q:fG ds with
   |none=>rw[q] at e;cases e
   |some cs =>
    rw[q] at e;cases e;rw[h2.unS,Rps.strs h3 q];rfl
  | _=>cases e
def jC(m:M D):M D:=λρ O=>(m ρ O).bind λd f=>match aV f d with
 | .lst ds=>match fG ds with
  |some ls=>if(ls.map List.length).sum<=1000000 then .ok (.str ls.flatten) f else .no
  |none=>.no
 | _=>.no
def Xl  {j:Nat}{p apos f:Pos}  (h:SE X md P e m)  (hx:x=S []:=by decide +kernel)
  (C:((backTo f (starEach [e] X.env)).all (λx=>!x.1)&&(backToKw f (keywordEach [] X.env)).all (λx=>x.1.isSome)&&decide ([e].length+([]:List Keyword).length+(if([]:List Keyword).isEmpty then 0 else 1)<30))=true:=by rfl)
  (t:(apos.endLine == f.line)=true:=by rfl) (hs:starEach [e] X.env=(false,eval e X.env)::starEach [] X.env:=by exact bM rfl) (u:attributeBase (.Constant (.str x) j p) "join" X.env (eval (.Constant (.str x) j p) X.env)=eval (.Constant (.str x) j p) X.env:=by rfl) (E:(backTo f (starEach [] X.env)).any (·.1)=false:=by exact cB rfl):
  OE X md P (.Call (.Attribute (.Constant (.str x) j p) "join" apos) [e] [] f) (jC m):=
 (j4 PySem.F.plainAttrs_str PySem.F.slot_str_join PySem.F.type_str_join (UJ _) CJ (dY h fC hs) u C t hs).imp λσ H Q q=>by
  obtain⟨ρ,O,F,T,d,O',r,s,e,k⟩:=q;obtain⟨y,U,R,e⟩:=Res.bind_ok e
  cases ed:aV U y with
  |lst ds =>
   rw[ed] at e
   dsimp  at e
   cases es:fG ds with
   |none=>rw[es] at e;cases e
   |some ls =>
    rw[es] at e
    dsimp  at e
    split at e
    ·rename_i I;cases e;refine⟨rfl,ρ,_,F,T,_,_,r,s,R,λv W Y Z L G J=>?_⟩;have q:=Sv.lk J G;rw[ed] at q;obtain⟨a,xs,rfl,h1,h2⟩:=q.list G.fh;refine⟨a,ls,by rw[hx],rfl,?_,I,k _ W Y _ L G (.inl ⟨rfl,Rp.str⟩)⟩;rw[<-h2.strs es];exact h1.sq
    ·cases e
  | _=>rw[ed] at e;cases e
noncomputable def nR(mo m:M D):M D:=λρ O=>(mo ρ O).bind λa f=>(m ρ f).bind λb d=>match a,b with
 | .str l,.str n=>.ok (.bl (decide (l.take n.length=n))) d
 | _,_=>.no
def Xm  {apos f:Pos}  (T:VE X md P o mo)(h:VE X md P e m)
  (t:attributeBase o "startswith" X.env (eval o X.env)=eval o X.env:=by rfl)
  (y:((backTo f (starEach [e] X.env)).all (λx=>!x.1)&&(backToKw f (keywordEach [] X.env)).all (λx=>x.1.isSome)&&decide ([e].length+([]:List Keyword).length+(if([]:List Keyword).isEmpty then 0 else 1)<30))=true:=by rfl)
  (j:(apos.endLine == f.line)=true:=by rfl) (hs:starEach [e] X.env=(false,eval e X.env)::starEach [] X.env:=by exact bM rfl) (C:(backTo f (starEach [] X.env)).any (·.1)=false:=by exact cB rfl):
  OE X md P (.Call (.Attribute o "startswith" apos) [e] [] f) (nR mo m):=
 (j4 PySem.F.plainAttrs_str PySem.F.slot_str_startswith PySem.F.type_str_startswith U0 T (dY h fC hs) t y j hs).imp λσ H Q q=>by
  obtain⟨ρ,O,F,Z,d,O',r,s,e,k⟩:=q;obtain⟨a,O1,Y,e⟩:=Res.bind_ok e;obtain⟨b,O2,W,e⟩:=Res.bind_ok e;split at e
  ·cases e;refine⟨ρ,_,F,Z,_,_,r,s,Y,λv H1 F1 E G J L=>?_⟩;cases Rp.unS L;refine⟨rfl,ρ,_,F1,E,_,_,J,s.step G,W,λu H2 F2 as2 U I R=>?_⟩;cases Rp.unS R;exact⟨_,_,rfl,rfl,k _ H2 F2 _ (G.trans U) I (.inl ⟨rfl,Rp.bl⟩)⟩
  ·cases e
def SlO.own{K:Frag}{i:Nat}(s:SlO K md P ρ σ H F E)(f:md[i]?=some .o)(d:ρ[i]?=some (some (.lst ds))):∃a xs,σ[i]?=some (some (.ref a))/\H a=some (.lst xs)/\F a=none/\a∉E/\¬P a/\Rps K F E xs ds:=by
 obtain⟨v,h1,h2⟩:=s.sl i .o _ f d
 rcases h2 with⟨h2,_⟩ | ⟨a,xs,C,rfl,x,u,y,t,m,j⟩
 ·cases h2
 ·cases x;exact⟨a,xs,h1,u,y,t,m,j⟩
def SlO.mut{K:Frag}(s:SlO K md P ρ σ H F as)(O:md[i]?=some .o)(G:ρ[i]?=some (some (.lst ds)))(E:σ[i]?=some (some (.ref a)))(hF:F a=none)(ha:a∉as)(hP:¬P a)(r:Rps K F as xs' ds'):SlO K md P (ρ.set i (some (.lst ds'))) σ (upd H a (.lst xs')) F as:=by
 have hi:i<md.length:=(zu.mp O).1;refine⟨s.len,by rw[jb];exact s.len',λc p=>?_,λj m d Q C=>?_,λj k c t fs h1 h2 h3 h4 h5 h6=>?_,λx hx=>?_⟩
 ·have:=s.pd c p
  unfold upd
  split
  ·exact λz=>nomatch z
  ·exact this
 ·by_cases h:i=j
  ·subst h;rw[O] at Q;cases Q;rw[zQ (by rw[s.len'];exact hi)] at C;cases C;exact⟨_,E,.inr ⟨a,xs',ds',rfl,rfl,bx,hF,ha,hP,r⟩⟩
  ·rw[zj h] at C;obtain⟨v,q1,u⟩:=s.sl j m d Q C;refine⟨v,q1,?_⟩
   cases m with
   |v=>exact u
   |s =>
    rcases u with u | ⟨c,W,t,L,J,U,T,I,R⟩
    ·exact .inl u
    ·exact .inr ⟨c,W,t,L,J,by rw[aD (λz=>hP (by rw[<-z];exact I))];exact U,T,I,R⟩
   |o =>
    rcases u with u | ⟨c,W,t,L,J,U,z0,T,I,R⟩
    ·exact .inl u
    ·refine .inr ⟨c,W,t,L,J,?_,z0,T,I,R⟩;rw[aD]
     ·exact U
     ·intro z;subst z L J;exact h (s.inj i j c ds t O Q G C E q1)
 ·have f:∀k t,(ρ.set i (some (.lst ds')))[k]?=some (some (D.lst t))->∃y,ρ[k]?=some (some (D.lst y)):=λk t q=>by
   by_cases h:i=k
   ·subst h;exact⟨ds,G⟩
   ·rw[zj h] at q;exact⟨t,q⟩
  obtain⟨y,q3⟩:=f j t h3;obtain⟨Z,q4⟩:=f k fs h4;exact s.inj j k c y Z h1 h2 q3 q4 h5 h6
 ·obtain⟨X,p2,p3⟩:=s.pin x hx
  have Y:i≠x.1:=λz=>by rw[<-z,O] at X;cases X
  exact⟨X,by rw[zj Y];exact p2,p3⟩
def xq  (f:H a=some (.lst xs))(d:¬P a) :GrS P H F m (upd H a o) F m :=
 ⟨λ_ _ _ _ _ _=>rfl,Same.refl F,⟨[],by simp⟩,λc u p e _ _=>by rw[aD λz=>d (by rw[<-z];exact p)];exact e,λc e=>by
  by_cases h:c=a
  ·subst h;rw[bx] at e;cases e
  ·rwa [aD h] at e,λc j u e=>by rw[aD λz=>by rw[z,f] at e;cases e];exact e⟩
def RlO.mut{K:Frag}(r:RlO K mg O H F t)(m:F a=none)(j:a∉t) :RlO K mg O (upd H a o) F t:=by
 refine⟨λc u e=>?_,r.fd,r.nd,r.len,r.fa,λn c u d f=>(r.ob n c u d f).keep (aD ?_) (Same.refl F) λ_ _ h=>h⟩
 ·rw[aD (bT e m)];exact r.fh c u e
 ·intro z;subst z;exact j (zJ d)
noncomputable def eG(i:Nat)(m:M D):MS:=λρ O=>match m ρ O with
 | .ok d O'=>match ρ[i]? with
  |some (some (.lst ds))=>if ds.length<1000000 then .nx (ρ.set i (some (.lst (ds++[d])))) O' else .no
  | _=>.no
 | .ex x O'=>.ex x O'
 | .no=>.no
def Xn     (K:Frag)(mg:Str->Option Value){D:Ends}   (k:jz K mg md P R D H F u (eG i m ρ O)):
  ∃d f ds,m ρ O=.ok d f/\ρ[i]?=some (some (.lst ds))/\ds.length<1000000/\jz K mg md P R D H F u (.nx (ρ.set i (some (.lst (ds++[d])))) f):=by
 unfold eG at k;split at k
 ·rename_i d f e;split at k
  ·rename_i ds t;split at k
   ·rename_i j;exact⟨d,f,ds,e,t,j,k⟩
   ·exact False.elim k
  ·exact False.elim k
 ·exact False.elim k
 ·exact False.elim k
def Xo{R:RR}(i:Nat){x:Str}{p apos f C:Pos}   (h:VE X md P e m)(U:md[i]?=some .o:=by rfl)(hN:X.N[i]?=some x:=by rfl)(hv:Vis X.env.scope x:=by first | exact Or.inl rfl | exact Or.inr (Or.inl rfl) | exact Or.inr (Or.inr rfl))
  (hd:(x == ("__debug__":Str))=false:=by decide) (I:(x == ("__classdict__":Str))=false:=by decide)
  (t:attributeBase (.Name x p) "append" X.env (eval (.Name x p) X.env)=eval (.Name x p) X.env:=by rfl)
  (E:((backTo f (starEach [e] X.env)).all (λx=>!x.1)&&(backToKw f (keywordEach [] X.env)).all (λx=>x.1.isSome)&&decide ([e].length+([]:List Keyword).length+(if([]:List Keyword).isEmpty then 0 else 1)<30))=true:=by rfl)
  (j:(apos.endLine == f.line)=true:=by rfl) (hs:starEach [e] X.env=(false,eval e X.env)::starEach [] X.env:=by exact bM rfl) (G:(backTo f (starEach [] X.env)).any (·.1)=false:=by exact cB rfl)
  (hsw:swapsWith (.Call (.Attribute (.Name x p) "append" apos) [e] [] f) none C.line X.env=pure false:=by rfl):
  VS X md P R (.Expr (.Call (.Attribute (.Name x p) "append" apos) [e] [] f) C) (eG i m):=
 (m9 (j4 PySem.F.plainAttrs_list PySem.F.slot_list_append PySem.F.type_list_append DW (jY hN hv hd I) (dY h fC hs) t E j hs)).imp λD σ H q=>by
  obtain⟨ρ,O,F,as,r,s,k⟩:=q;obtain⟨d,O',ds,e,Z,hz,k⟩:=Xn _ _ k;obtain⟨a,J,h1,h2,h3,h4,Y,W⟩:=s.own U Z;refine⟨_,h1,.inl ⟨rfl,J,.inl (.inl h2)⟩,ρ,O,F,as,d,O',r,s,e,λy H1 F1 as1 u r1 hy=>?_⟩;have s1:=s.step u
  have hn:H a≠none:=by rw[h2];exact λz=>nomatch z
  have T:=u.fr _ _ h2 h4 rfl
  have Q:F1 a=none:=by rw[u.fz a _ h2 h4 rfl];exact h3
  have L:=u.out h4 hn;exact⟨a,J,y,rfl,rfl,T,by rw[W.length];exact zK hz (by decide),k σ _ F1 _ (u.toS.trans (xq T Y)) (r1.mut Q L) (s1.mut U Z h1 Q L Y ((W.gr u).snoc hy))⟩
def Xp(K:Frag):V->List V->Hp->VK->Prop:=λx j H Q=>∃l b f d,x=.ref l/\j=[.ref b]/\H l=some (.lst f)/\RdK K H b d/\f.length+d.length<=sizeLine/\Q .non (upd H l (.lst (f++d)))
def Gn:MtM X "list.extend" (Xp X.K):=by
 intro pins s σ H x W v Y Q I C E h;obtain⟨l,b,U,R,rfl,rfl,y,L,Z,q⟩:=h;cases C;obtain⟨u,rfl,G⟩:=E.one;cases G;obtain⟨z,f,n,r,hl,e⟩:=I.lstM y;obtain⟨T,d,J,t,O⟩:=L.ok I;have P:=t.length
 have m:f.toArray.size+d.toArray.size<=sizeLine:=by rw[zI,zI];omega
 have j:¬(!f.toArray.isEmpty&&Builtin.List.listTooLong (f.toArray.size+d.toArray.size))=true:=by
  rw[DR m,Bool.and_false];exact zA
 refine call_meets F.slot_list_extend ⟨_,e,rfl⟩ F.entry_list_extend (F.args_list_extend_2 _ _)
  (AutoSeq1.list_extend_list_list_0 l _ n b _ J j (by omega)) ⟨e,O,?_⟩
 refine⟨.non,_,I.lset y e (by simp) (r.append t) ?_,rfl,q⟩;rw[ze];omega
def gq(i:Nat)(m:M D):MS:=λρ O=>match m ρ O with
 | .ok d O'=>match ρ[i]?,aV O' d with
  |some (some (.lst ds)),.lst es=>if ds.length+es.length<=1000000 then .nx (ρ.set i (some (.lst (ds++es)))) O' else .no
  | _,_=>.no
 | .ex x O'=>.ex x O'
 | .no=>.no
def Xq     (K:Frag)(mg:Str->Option Value){D:Ends}   (k:jz K mg md P R D H F x (gq i m ρ O)):
  ∃d f ds es,m ρ O=.ok d f/\ρ[i]?=some (some (.lst ds))/\aV f d=.lst es/\ds.length+es.length<=1000000/\jz K mg md P R D H F x (.nx (ρ.set i (some (.lst (ds++es)))) f):=by
 unfold gq at k;split at k
 ·rename_i d f e;split at k
  ·rename_i ds es u t;split at k
   ·rename_i j;exact⟨d,f,ds,es,e,u,t,j,k⟩
   ·exact False.elim k
  ·exact False.elim k
 ·exact False.elim k
 ·exact False.elim k
def Xr{R:RR}(i:Nat){x:Str}{p apos f C:Pos}   (h:SE X md P e m)(Z:md[i]?=some .o:=by rfl)(hN:X.N[i]?=some x:=by rfl)(hv:Vis X.env.scope x:=by first | exact Or.inl rfl | exact Or.inr (Or.inl rfl) | exact Or.inr (Or.inr rfl))
  (hd:(x == ("__debug__":Str))=false:=by decide) (J:(x == ("__classdict__":Str))=false:=by decide)
  (t:attributeBase (.Name x p) "extend" X.env (eval (.Name x p) X.env)=eval (.Name x p) X.env:=by rfl)
  (E:((backTo f (starEach [e] X.env)).all (λx=>!x.1)&&(backToKw f (keywordEach [] X.env)).all (λx=>x.1.isSome)&&decide ([e].length+([]:List Keyword).length+(if([]:List Keyword).isEmpty then 0 else 1)<30))=true:=by rfl)
  (j:(apos.endLine == f.line)=true:=by rfl) (hs:starEach [e] X.env=(false,eval e X.env)::starEach [] X.env:=by exact bM rfl) (G:(backTo f (starEach [] X.env)).any (·.1)=false:=by exact cB rfl)
  (hsw:swapsWith (.Call (.Attribute (.Name x p) "extend" apos) [e] [] f) none C.line X.env=pure false:=by rfl):
  VS X md P R (.Expr (.Call (.Attribute (.Name x p) "extend" apos) [e] [] f) C) (gq i m):=
 (m9 (j4 PySem.F.plainAttrs_list PySem.F.slot_list_extend PySem.F.type_list_extend Gn (jY hN hv hd J) (dY h fC hs) t E j hs)).imp λD σ H q=>by
  obtain⟨ρ,O,F,as,r,s,k⟩:=q;obtain⟨d,O',ds,es,e,e2,e3,hz,k⟩:=Xq _ _ k;obtain⟨a,L,h1,h2,h3,h4,h5,h6⟩:=s.own Z e2;refine⟨_,h1,.inl ⟨rfl,L,.inl (.inl h2)⟩,ρ,O,F,as,d,O',r,s,e,λy H1 F1 as1 u I hy=>?_⟩;have s1:=s.step u
  have hn:H a≠none:=by rw[h2];exact λz=>nomatch z
  have W:=u.fr _ _ h2 h4 rfl
  have U:F1 a=none:=by rw[u.fz a _ h2 h4 rfl];exact h3
  have T:=u.out h4 hn;have Y:=Sv.lk hy I;rw[e3] at Y;obtain⟨b,zs,rfl,w1,Q⟩:=Y.list I.fh;exact⟨a,b,L,zs,rfl,rfl,W,w1,by rw[h6.length,Q.length];exact d8 hz,k σ _ F1 _ (u.toS.trans (xq W h5)) (I.mut U T) (s1.mut Z e2 h1 U T h5 (Rps.append Q (h6.gr u)))⟩
def putD(f:Str)(v:D):List (Str×D)->List (Str×D)
 | []=>[(f,v)]
 | (g,x)::r=>if g=f then(g,v)::r else(g,x)::putD f v r
def FsR.cons_inv{K:Frag}     (h:FsR K F as gs ((f,d)::fs)):∃v gs',gs=(f,v)::gs'/\Rp K F as v d/\FsR K F as gs' fs:=by
 obtain⟨h1,h2⟩:=h
 cases gs with
 |nil=>cases h1
 |cons g gs' =>
  obtain⟨m,j⟩:=g;simp only[zg,List.cons.injEq] at h1;obtain⟨x,r,e,h3,h4⟩:=h2.un;simp only[zg,List.cons.injEq] at e;obtain⟨rfl,rfl⟩:=e;exact⟨j,gs',by rw[h1.1],h3,⟨h1.2,h4⟩⟩
def FsR.nil_inv{K:Frag}  (h:FsR K F d gs []):gs=[]:=List.map_eq_nil_iff.mp h.nm
theorem FsR.get{K:Frag}{F:Hp}{j:List Addr}:∀{fs:List (Str×D)}{gs:List (Str×V)}{f:Str}{d:D},FsR K F j gs fs->fs.lookup f=some d->∃v,gs.lookup f=some v/\Rp K F j v d
 | [],_,_,_,_,e=>by cases e
 | (g,x)::fs,gs,f,d,h,e=>by
  obtain⟨v,gs',rfl,h1,h2⟩:=h.cons_inv;rw[List.lookup_cons] at e ⊢
  cases q:f == g with
  |true =>
   rw[q] at e;cases e;exact⟨v,rfl,h1⟩
  |false =>
   rw[q] at e;exact FsR.get h2 e
theorem FsR.no{K:Frag}{F:Hp}{d:List Addr}:∀{fs:List (Str×D)}{gs:List (Str×V)}{f:Str},FsR K F d gs fs->fs.lookup f=none->gs.lookup f=none
 | [],_,_,h,e=>by rw[h.nil_inv];rfl
 | (g,x)::fs,gs,f,h,e=>by
  obtain⟨v,gs',rfl,h1,h2⟩:=h.cons_inv;rw[List.lookup_cons] at e ⊢
  cases q:f == g with
  |true=>rw[q] at e;cases e
  |false =>
   rw[q] at e;exact FsR.no h2 e
theorem FsR.put{K:Frag}    (hv:Rp K F as v d):∀{fs:List (Str×D)}{gs:List (Str×V)},FsR K F as gs fs->FsR K F as (c7 f v gs) (putD f d fs)
 | [],_,h=>by
  rw[h.nil_inv];exact⟨rfl,Rps.cons hv Rps.nil⟩
 | (g,x)::fs,gs,h=>by
  obtain⟨u,gs',rfl,h1,h2⟩:=h.cons_inv;rw[c7,putD]
  by_cases q:g=f
  ·rw[if_pos q,if_pos q];exact⟨by simp[h2.nm],Rps.cons hv h2.vl⟩
  ·rw[if_neg q,if_neg q];have j:=FsR.put (f:=f) hv h2;exact⟨by simp[j.nm],Rps.cons h1 j.vl⟩
def FsR.length{K:Frag}   (h:FsR K F d gs fs):gs.length=fs.length:=by
 have:=congrArg List.length h.nm
 simpa using this
def RlO.set{K:Frag}        (r:RlO K mg O H F E)(j:E[n]?=some a)(x:ObR K mg (upd H a u) F E a o):RlO K mg (O.set n o) (upd H a u) F E:=by
 have y:=r.fa a (zJ j);refine⟨λc w e=>?_,r.fd,r.nd,by rw[jb];exact r.len,r.fa,λk c w f d=>?_⟩
 ·rw[aD (bT e y)];exact r.fh c w e
 ·by_cases h:n=k
  ·subst h;rw[j] at f;cases f;rw[zQ (by rw[<-r.len];exact(zu.mp j).1)] at d;cases d;exact x
  ·rw[zj h] at d
   refine(r.ob k c w f d).keep (aD ?_) (Same.refl F) λ_ _ h=>h
   intro z;subst z;obtain⟨l1,t⟩:=zu.mp j;obtain⟨C,m⟩:=zu.mp f;exact h ((List.getElem_inj r.nd).mp (t.trans m.symm))
def KC(K:Frag)(mg:Str->Option Value)(c f:Str):Prop:=∃C,mg c=some (.ref C)/\Cls K C/\lK K C f
noncomputable def bf(t:List Str)(f:Str)(m:M D):M D:=λρ O=>(m ρ O).bind λd j=>match d with
 | .ob n=>match j[n]? with
  |some (.ins c fs)=>if c∈t then match fs.lookup f with
   |some y=>.ok y j
   |none=>.no else .no
  | _=>.no
 | _=>.no
def Xu      (E:∀c∈cs,KC X.K X.mg c f)(h:VE X md P o m)(hb:attributeBase o f X.env (eval o X.env)=eval o X.env:=by rfl):VE X md P (.Attribute o f pos) (bf cs f m):=(RN h hb).imp λσ H Q q=>by
 obtain⟨ρ,O,F,as,d,O',r,s,e,k⟩:=q;obtain⟨x,O1,Y,e⟩:=Res.bind_ok e
 cases x with
 |ob n =>
  dsimp  at e
  split at e
  ·rename_i c fs W;split at e
   ·rename_i j;split at e
    ·rename_i y U;cases e;refine⟨ρ,_,F,as,_,_,r,s,Y,λv H1 F1 as1 T t u=>?_⟩;obtain⟨a,rfl,G⟩:=Rp.unO u;obtain⟨C,Z,gs,h1,h2,h3⟩:=t.ob n a _ G W;obtain⟨C',h4,R,L⟩:=E c j;rw[h1] at h4;cases h4;obtain⟨w,J,I⟩:=h3.get U;exact⟨a,C,Z,gs,w,rfl,h2,R,L,J,k w H1 F1 _ T t I⟩
    ·cases e
   ·cases e
  ·cases e
 | _=>cases e
def bF(m:List Str)(f:Str)(mo j:M D):MS:=λρ O=>match j ρ O with
 | .ok d O1=>match mo ρ O1 with
  | .ok (.ob n) O2=>match O2[n]? with
   |some (.ins c fs)=>if c∈m/\fs.length<900 then .nx ρ (O2.set n (.ins c (putD f d fs))) else .no
   | _=>.no
  | _=>.no
 | .ex x O'=>.ex x O'
 | .no=>.no
def Xv      (hc:∀c∈cs,KC X.K X.mg c f)(ho:VE X md P o mo)(hv:VE X md P value mv)(hs:swapsWith value (some (.Attribute o f pos')) pos.line X.env=pure false:=by rfl):VS X md P R (.Assign [.Attribute o f pos'] value pos) (bF cs f mo mv):=(RP ho hv hs).imp λD σ H q=>by
 obtain⟨ρ,O,F,as,r,s,k⟩:=q;unfold bF at k;split at k
 ·rename_i d U e1;split at k
  ·rename_i n O2 e2;split at k
   ·rename_i c fs eo;split at k
    ·rename_i G;refine⟨ρ,O,F,as,d,U,r,s,e1,λy H1 F1 I T Y hy=>?_⟩;refine⟨ρ,U,F1,I,.ob n,O2,Y,s.step T,e2,λz W E j Q J Z=>?_⟩;have g:=T.trans Q;obtain⟨a,rfl,t⟩:=Rp.unO Z;obtain⟨C,x,gs,h1,h2,h3⟩:=J.ob n a _ t eo;obtain⟨C',h4,h5,h6⟩:=hc c G.1;rw[h1] at h4;cases h4;have m:=zJ t
     have L:Gr W E j (upd W a (.ins C x (c7 f y gs))) E j:=⟨λ_ _ _ _ _=>rfl,Same.refl _,⟨[],by simp⟩,λb u e hb _=>by rw[aD λz=>hb (by rw[z];exact m)];exact e,λb e=>by
      by_cases h:b=a
      ·subst h;rw[bx] at e;cases e
      ·rwa [aD h] at e,λb o' u e=>by rw[aD λz=>by rw[z,h2] at e;cases e];exact e⟩
     refine⟨a,C,x,gs,rfl,h2,h5,h6,by rw[h3.length];omega,?_⟩;exact k σ _ E _ (g.trans L).toS (J.set t ⟨C,x,_,h1,bx,h3.put (Rp.gr hy Q)⟩) ((s.step g).step L)
    ·exact False.elim k
   ·exact False.elim k
  ·exact False.elim k
 ·exact False.elim k
 ·exact False.elim k
section
variable {Pr:Program}{w:World}{K:Frag}{mg:Str->Option Value}{base:Heap}
def Gp{K:Frag}  {st:Stmt}     (Fn:Fun K x qual st f fd)(S:dZ N ps (aO st))
  (t T:List Md)   (hR:d7 R) (J:∀N H F u,R N H F u .non .non) (I:t.length=ps.length) (Z:(t++T).length=N.length) (Y:∀m∈t,m≠.o)
  (body:∀(j:Value) (A:Around) (outer:List Env) (s:Shared) (H:Hp) (E:XK),aW k (A.deeper (envOfC qual (aO st) s.heap.objs.size f j))->∀P,VSs ((fU CX0 Pr w K mg base N qual (aO st) f j A outer s H E).nox) (t++T) P R (bY st) b):
  cz Pr w K mg base CX0 (k+1) f fd ps (vSp K mg t R (aG N.length b)):=by
 refine Fn.ok S (λU H Q E h=>?_) λj A outer s H U Q E X h=>?_
 ·obtain⟨ds,O,F,u,d,O',r,a,_⟩:=h;rw[a.len.1,I]
 ·obtain⟨ds,O,F,u,d,O',r,a,e,q⟩:=h;refine⟨_,body _ A _ s H E X (Pt.all H),?_⟩;refine⟨_,O,F,u,r,sV a Z Y,?_⟩;unfold aG at e
  cases eb:b _ O with
  |rt  =>
   rw[eb] at e;cases e
   exact λv C G L g y W=>q v C G _ g.gr y (hR _ _ _ _ _ _ _ (λc hc=>jv.mp hc) W)
  |nx  =>
   rw[eb] at e;cases e
   exact λσ' C G L g y _=>q _ C G _ g.gr y (J _ _ _ _)
  | bk
  | ct
  | ex
  |no=>rw[eb] at e;cases e
def cD(K:Frag)(mg:Str->Option Value)(c m qual:Str)(st:Stmt):Prop:=∃C f fd,mg c=some (.ref C)/\Cls K C/\nu K C m f/\Fun K m qual st f fd
inductive iz (P:Program) (w:World) (K:Frag) (mg:Str->Option Value) (base:Heap) (c m:Str) (ps:List Str) (k:Nat) (sp:Sp):Prop
 | mk:∀C f fd,mg c=some (.ref C)->Cls K C->nu K C m f->Binds K fd ps []->cz P w K mg base CX0 k f fd ps sp->iz P w K mg base c m ps k sp
inductive pZ (P:Program) (w:World) (K:Frag) (mg:Str->Option Value) (base:Heap) (c:Str) (ps:List Str) (k:Nat) (sp:Sp):Prop
 | mk:∀C f fd,mg c=some (.ref C)->Mk K C f->Binds K fd ps []->cz P w K mg base CX0 k f fd ps sp->pZ P w K mg base c ps k sp
def nU(K:Frag)(mg:Str->Option Value)(c qual:Str)(st:Stmt):Prop:=∃C f fd,mg c=some (.ref C)/\Mk K C f/\Fun K "__init__" qual st f fd
def Xw{Pr:Program}{w:World}{K:Frag}{base:Heap}  {st:Stmt}  {k:Nat}(T:cD K mg c x U st)(S:dZ N ps (aO st))
  (hb:∀(kV G j:Value) (Q:Option Addr) (d ct:Value) (us:List Value),us.length=ps.length->bindArgs (PySem.W.fnOf x U (cP st) (bY st) (aO st) .none kV G j Q d ct) ⟨us,[]⟩=pure (ps.zip us))
  (j t:List Md)  {b:MS} (L:d7 R) (y:∀N H F O,R N H F O .non .non) (u:j.length=ps.length:=by rfl) (J:(j++t).length=N.length:=by rfl) (I:∀m∈j,m≠.o:=by decide)
  (body:∀(f:Addr) (d:Value) (A:Around) (outer:List Env) (s:Shared) (H:Hp) (E:XK),aW k (A.deeper (envOfC U (aO st) s.heap.objs.size f d))->∀P,VSs ((fU CX0 Pr w K mg base N U (aO st) f d A outer s H E).nox) (j++t) P R (bY st) b):
  iz Pr w K mg base c x ps (k+1) (vSp K mg j R (aG N.length b)):=by
 obtain⟨C,f,fd,h1,h2,h3,h4⟩:=T;exact⟨C,f,fd,h1,h2,h3,h4.binds hb,Gp h4 S j t L y u J I (body f)⟩
def Xx{Pr:Program}{w:World}{K:Frag}{base:Heap}  {st:Stmt}  {k:Nat}(Q:nU K mg c T st)(S:dZ N ps (aO st))
  (hb:∀(kV y j:Value) (O:Option Addr) (d ct:Value) (us:List Value),us.length=ps.length->bindArgs (PySem.W.fnOf "__init__" T (cP st) (bY st) (aO st) .none kV y j O d ct) ⟨us,[]⟩=pure (ps.zip us))
  (j t:List Md)  {b:MS} (J:d7 R) (x:∀N H F L,R N H F L .non .non) (u:j.length=ps.length:=by rfl) (I:(j++t).length=N.length:=by rfl) (G:∀m∈j,m≠.o:=by decide)
  (body:∀(f:Addr) (d:Value) (A:Around) (outer:List Env) (s:Shared) (H:Hp) (E:XK),aW k (A.deeper (envOfC T (aO st) s.heap.objs.size f d))->∀P,VSs ((fU CX0 Pr w K mg base N T (aO st) f d A outer s H E).nox) (j++t) P R (bY st) b):
  pZ Pr w K mg base c ps (k+1) (vSp K mg j R (aG N.length b)):=by
 obtain⟨C,f,fd,h1,h2,h4⟩:=Q;exact⟨C,f,fd,h1,h2,h4.binds hb,Gp h4 S j t J x u I G (body f)⟩
end
noncomputable def aQ(c m:Str)(cf:List D->au->Res D)(mo:M D)(ma:M (List D)):M D:=λρ O=>(mo ρ O).bind λd f=>match d with
 | .ob n=>match f[n]? with
  |some (.ins c' fs)=>if c'=c/\(fs.lookup m).isNone=true then(ma ρ f).bind λj t=>cf (.ob n::j) t else .no
  | _=>.no
 | _=>.no
def Gq{K:Frag}   (hR:d7 R)(hC:mg c=some (.ref C))     (q:tM K mg md P R (aQ c m cf mo ma) σ H Q):
  wu C m (vSp K mg (.v::pm) R cf) [] E (tM K mg md P (rV K) mo) (tMA K mg md P pm ma) σ H Q:=by
 obtain⟨ρ,O,F,as,d,O',r,s,e,k⟩:=q;obtain⟨x,U,e1,e⟩:=Res.bind_ok e
 cases x with
 |ob n =>
  dsimp  at e
  split at e
  ·rename_i c' fs eo;split at e
   ·rename_i J;obtain⟨L,T,e2,e⟩:=Res.bind_ok e;refine⟨ρ,O,F,as,.ob n,U,r,s,e1,λv H1 F1 y j G I=>?_⟩;obtain⟨a,rfl,ha⟩:=Rp.unO I;obtain⟨C',dx,gs,h1,h2,h3⟩:=G.ob n a _ ha eo;rw[J.1,hC] at h1;cases h1;refine⟨a,dx,gs,rfl,h2,h3.no (Option.isNone_iff_eq_none.mp J.2),?_⟩;refine⟨ρ,U,F1,y,L,T,G,s.step j,e2,λvs H2 F2 u f X t=>?_⟩;rw[zG];exact⟨.ob n::L,T,F2,u,d,O',X,⟨Rp.gr I f,t⟩,e,λW H' F' as' g' Y Z=>k W H' F' _ ((j.trans f).trans g') Y (hR _ _ _ _ _ _ _ (λb hb=>(j.trans f).dm b hb) Z)⟩
   ·cases e
  ·cases e
 | _=>cases e
def Gs{d apos:Pos}{pl:Sem Bool}(F:d7 R)(M:iz X.prog X.w X.K X.mg X.base c m ps k (vSp X.K X.mg (.v::I) R cf))(x:aW k X.A)(y:VE X md P o mo)(E:AE X md P I (e::es) ma)
  (j:starEach (e::es) X.env=(false,eval e X.env)::starEach es X.env:=by exact bM rfl) (t:(backTo d (starEach es X.env)).any (·.1)=false:=by exact cB rfl)
  (u:eval (.Call (.Attribute o m apos) (e::es) [] d) X.env=(do
   let ov <-eval o X.env
   standAt apos.atName
   let (f,first) <-holding [ov] (getMethod ov m pl)
   callWith d f first (backTo d (starEach (e::es) X.env)) (backToKw d (keywordEach [] X.env))):=by rfl):
  PE X (.Call (.Attribute o m apos) (e::es) [] d) (tM X.K X.mg md P R (aQ c m cf mo ma)):=by
 obtain⟨C,f,fd,h1,h2,h3,h4,G⟩:=M
 exact(R3 y h2 h3 G x h4 .nil lM E j t u).imp λ_ _ _ q=>Gq F h1 q
def Gu  (T:d7 R)(M:iz X.prog X.w X.K X.mg X.base c m ps k (vSp X.K X.mg [.v] R cf))(J:aW k X.A)(L:VE X md P o mo)
  (I:eval (.Call (.Attribute o m apos) [] [] pos) X.env=(do
   let ov <-eval o X.env
   standAt apos.atName
   let (f,first) <-holding [ov] (getMethod ov m pl)
   callWith pos f first (backTo pos (starEach [] X.env)) (backToKw pos (keywordEach [] X.env))):=by rfl):
  PE X (.Call (.Attribute o m apos) [] [] pos) (tM X.K X.mg md P R (aQ c m cf mo ao)):=by
 obtain⟨C,f,fd,h1,h2,h3,h4,U⟩:=M
 refine(R4 L h2 h3 U J h4 .nil lM I).imp λσ H Q q=>?_
 obtain⟨ρ,O,F,as,d,O',r,s,e,k⟩:=Gq (E:=E0) T h1 q;refine⟨ρ,O,F,as,d,O',r,s,e,λv j F' as' g x G=>?_⟩;obtain⟨a,dx,fs,e1,Z,Y,t⟩:=k v j F' _ g x G;refine⟨a,dx,fs,e1,Z,Y,?_⟩;obtain⟨ρ1,O1,F1,as1,ds1,O2,u,s1,W,y⟩:=t;cases W;exact y [] j F1 _ Gr.refl u trivial
noncomputable def dh(c:Str)(cf:List D->au->Res D)(ma:M (List D)):M D:=λρ O=>(ma ρ O).bind λf d=>match cf (.ob d.length::f) (d++[.ins c []]) with
 | .ok .non O2=>.ok (.ob d.length) O2
 | .ok _ _=>.no
 | .ex x O2=>.ex x O2
 | .no=>.no
def xu{K:Frag}   (hC:mg c=some (.ref C))     (q:tM K mg md P (rV K) (dh c cf ma) σ H Q):
  wy C (vSp K mg (.v::pm) (rV K) cf) [] E (tMA K mg md P pm ma) σ H Q:=by
 obtain⟨ρ,O,F,as,d,O',r,s,e,k⟩:=q;obtain⟨ds,I,e1,e⟩:=Res.bind_ok e;split at e
 ·rename_i O2 ec;cases e;refine⟨ρ,O,F,as,ds,I,r,s,e1,λvs J u f g1 t W=>?_⟩;intro x y hx T X;rw[zG]
  have L:upd J y (.own x) x=none:=by rw[aD X.symm];exact hx
  have gA:Gr J u _ (upd J y (.own x)) u f:=Gr.lay T;have gB:Gr _ u _ (upd _ x (.ins C y [])) u f:=Gr.lay L;have m:=gA.trans gB;have g2:Gr J u _ _ u _:=⟨m.fz,m.ff,⟨[x],rfl,λa j=>by rw[zh.mp j];exact hx⟩,λa o e j hd=>m.fr a o e j hd,m.dm,m.kz⟩
  have nx :=λz=>t.all z hx
  have U:=(t.lay T).lay (o:=.ins C y []) L
  have at_:∀(n ) (a ),f[n]?=some a->(f++[x])[n]?=some a:=λn a h=>by
   rw[zF (zu.mp h).1];exact h
  have r2:RlO K mg (I++[.ins c []]) (upd (upd J y (.own x)) x (.ins C y [])) u (f++[x]):=by
   refine⟨U.fh,U.fd,?_,by simp[t.len],λa j=>?_,λn a o j G=>?_⟩
   ·rw[jg];refine⟨t.nd,by simp,λa j b hb=>?_⟩;rw[zh.mp hb];intro z;subst z;exact nx j
   ·rcases zx.mp j with z | z
    ·exact t.fa a z
    ·rw[zh.mp z];exact t.frF hx
   ·by_cases Y:n<I.length
    ·rw[zF (by rw[t.len];exact Y)] at j;rw[zF Y] at G;exact(U.ob n a o j G).keep rfl (Same.refl _) at_
    ·have hn':n=I.length:=by
      have:=(zu.mp G).1
      simp at this
      omega
     subst hn';rw[zL (zc _),Nat.sub_self] at G;rw[<-t.len,zL (zc _),Nat.sub_self] at j;cases G;cases j;exact⟨C,y,[],hC,bx,⟨rfl,Rps.nil⟩⟩
  have R:Rp K u (f++[x]) _ (.ob I.length):=Rp.mkO (by rw[<-t.len,zL (zc _),Nat.sub_self];rfl);refine⟨.ob _::ds,_,u,f++[x],.non,_,r2,⟨R,W.gr g2⟩,ec,λv H3 F3 as3 Z r3 hv=>?_⟩;exact⟨Rp.unN hv,k _ H3 F3 _ ((g1.trans g2).trans Z) r3 (Rp.gr R Z)⟩
 ·cases e
 ·cases e
 ·cases e
def Xy{p d:Pos}(M:pZ X.prog X.w X.K X.mg X.base c ps k (vSp X.K X.mg (.v::F) (rV X.K) cf))(t:aW (k+1) X.A)(y:AE X md P F (e::es) ma)(u:Gl X c:=by rfl)(m:(c == ("__debug__":Str))=false:=by decide)
  (x:starEach (e::es) X.env=(false,eval e X.env)::starEach es X.env:=by exact bM rfl) (j:(backTo d (starEach es X.env)).any (·.1)=false:=by exact cB rfl):VE X md P (.Call (.Name c p) (e::es) [] d) (dh c cf ma):=by
 obtain⟨C,f,fd,h1,h3,h4,E⟩:=M
 exact(Dp h3 E t u h1 h4 .nil lM y m x j).imp λ_ _ _ q=>xu h1 q
def Xz{md:List Md}{P:Pt}{p d:Pos}(M:pZ X.prog X.w X.K X.mg X.base c ps k (vSp X.K X.mg [.v] (rV X.K) cf))(m:aW (k+1) X.A)(t:Gl X c:=by rfl)(j:(c == ("__debug__":Str))=false:=by decide):VE X md P (.Call (.Name c p) [] [] d) (dh c cf ao):=by
 obtain⟨C,f,fd,h1,h3,h4,u⟩:=M
 refine(R5 h3 u m t h1 h4 .nil lM j).imp λσ H Q q=>?_
 obtain⟨ρ,O,F,x,y,E,r,s,e,k⟩:=xu h1 q;cases e;exact k [] H F x Gr.refl r trivial
def lX:D->Option (List D)
 | .lst ds=>some ds
 | .tup ds=>some ds
 | .str l=>if ascii l=true then some (cA l) else none
 | _=>none
def bz(m:M D):M (List D):=λρ O=>(m ρ O).bind λd j=>match lX d with
 |some f=>.ok f j
 |none=>.no
def xx   (h:WE X md P e m):SE X md P e m:=h.imp λσ H Q q=>by
 obtain⟨ρ,O,F,I,d,J,r,s,e,k⟩:=q;refine⟨ρ,O,F,I,d,J,r,s,e,λv L R T g t f=>k v L R _ g t ?_⟩
 rcases f with f | ⟨a,j,G,E,C,y,x,U,u⟩
 ·exact .inl f
 ·exact .inr ⟨a,j,G,E,C,y,x,u⟩
theorem XC   (h:WE X md P e m):VI X md P tg e (bz m):=λpins s σ H Q I q=>by
 obtain⟨ρ,O,F,t,y,E,r,sl,e,k⟩:=q;obtain⟨d,C,j,e⟩:=Res.bind_ok e
 cases d with
 |lst  =>
  cases e;exact Xg h _ s σ H Q I ⟨ρ,O,F,t,_,_,r,sl,by unfold tD;rw[j];rfl,k⟩
 |tup  =>
  cases e;exact Gh (wQ (xx h)) _ s σ H Q I ⟨ρ,O,F,t,_,_,r,sl,by unfold xg mG;rw[j];rfl,k⟩
 |str l =>
  simp  [lX] at e
  split at e
  ·rename_i x f;split at f
   ·rename_i u;cases f;cases e;refine Gi (xx h) _ s σ H Q I ⟨ρ,O,F,t,cA l,_,r,sl,?_,k⟩;unfold xj;rw[j];show(if ascii l=true then _ else _)=_;rw[if_pos u]
   ·cases f
  ·cases e
 | _=>cases e
theorem XD   (h:SE X md P e m):VIc X md P tg e (tD m):=(vU h).imp λσ H Q q=>by
 obtain⟨ρ,O,F,Z,ds,O',r,s,e,k⟩:=q;obtain⟨d,O1,Y,e⟩:=Res.bind_ok e
 cases d with
 |lst es =>
  cases e;refine⟨ρ,_,F,Z,_,_,r,s,Y,λv J E C R L I=>?_⟩
  obtain⟨a,j,rfl,h1,h2⟩:∃a j,v=.ref a/\Rps X.K E C j ds/\∀(t u:Hp) (f:List Addr),Gr J E C t u f->(∃O,RlO X.K X.mg O t u f)->RdK X.K t a j:=by
   rcases I with I | ⟨a,j,ds',rfl,e,W,U,T⟩
   ·obtain⟨a,j,rfl,h1,h2⟩:=I.unL;exact⟨a,j,rfl,h2,λt u f g ⟨O,r⟩=>(h1.mono g.ff).mono r.fh⟩
   ·cases e;exact⟨a,j,rfl,T,λt u f g _=>.inl (.inl (g.fr _ _ W U rfl))⟩
  refine⟨a,rfl,⟨j,(h2 J E C Gr.refl ⟨_,L⟩).sq⟩,k _ J E C R L ⟨λi d t u f g r e=>?_,λt u f g r=>⟨j,(h2 t u f g r).sq,by rw[h1.length];exact zc _⟩⟩⟩;obtain⟨x,h3,h4⟩:=h1.get' e;have q:=h2 t u f g r;refine⟨⟨j,x,q.sq,h3⟩,λy H3 G=>?_⟩;obtain⟨rfl,G⟩:=G
  have:=G j q.sq
  rw[h3] at this;cases this;exact⟨u,Gr.refl,λ_ r=>r,h4.gr g⟩
 | _=>cases e
theorem XH   (h:SE X md P e m):VIc X md P tg e (bz m):=λpins s σ H Q I q=>by
 obtain⟨ρ,O,F,t,y,E,r,sl,e,k⟩:=q;obtain⟨d,C,j,e⟩:=Res.bind_ok e
 cases d with
 |lst  =>
  cases e;exact XD h _ s σ H Q I ⟨ρ,O,F,t,_,_,r,sl,by unfold tD;rw[j];rfl,k⟩
 |tup  =>
  cases e;exact wW (Gh (wQ h)) _ s σ H Q I ⟨ρ,O,F,t,_,_,r,sl,by unfold xg mG;rw[j];rfl,k⟩
 |str l =>
  simp  [lX] at e
  split at e
  ·rename_i x f;split at f
   ·rename_i u;cases f;cases e;refine wW (Gi h) _ s σ H Q I ⟨ρ,O,F,t,cA l,_,r,sl,?_,k⟩;unfold xj;rw[j];show(if ascii l=true then _ else _)=_;rw[if_pos u]
   ·cases f
  ·cases e
 | _=>cases e
def nW(m:M D):M (List D):=λρ O=>(m ρ O).bind λd f=>match d with
 | .lst ds=>.ok (cQ 0 ds) f
 | .str l=>if ascii l=true then .ok (cQ 0 (cA l)) f else .no
 | _=>.no
def XJ{elts:List Expr}{E:Nat}{j:Pos}  {p t:Pos}  (u:X.mg "enumerate" = none)(h:WE X md P a m)(x:Gl X "enumerate":=by rfl)(hs:starEach [a] X.env=[(false,eval a X.env)]:=by exact nH rfl)(f:starEach [a] X.env=(false,eval a X.env)::starEach [] X.env:=by exact bM rfl):
  VI X md P (.Tuple elts E j) (.Call (.Name "enumerate" p) [a] [] t) (nW m):=λpins s σ H Q I q=>by
 obtain⟨ρ,O,F,C,G,J,r,sl,e,k⟩:=q;obtain⟨d,L,y,e⟩:=Res.bind_ok e
 cases d with
 |lst  =>
  cases e;exact Xj u h x hs f _ s σ H Q I ⟨ρ,O,F,C,_,_,r,sl,by unfold Gk;rw[y];rfl,k⟩
 |str l=>exact Xk u (xx h) x hs f _ s σ H Q I ⟨ρ,O,F,C,G,J,r,sl,by unfold Gm;rw[y];exact e,k⟩
 | _=>cases e
def XM   {K:PySem.W.Frag}
  (KX:K.In s₁.heap) (G:s₁.heap.Ns mainGlobals mg) (hb:s₁.heap.Ns builtinsNs mb) (U:∀x:Str,x≠"__name__"->mb x=bootBuiltins x) (O:s₁.heap.NoLimit) (hg:s₁.gens = #[])
  (Q:s₁.heap.get? a=some {cls:=.type "list",data:=.seq vs.toArray}) (hi:IntsAre vs ns) (Z:ns.length<=sizeLine) (hr:aW k callerA)
  (F:∀base:Heap,K.In base->base.Ns mainGlobals mg->cz P w K mg base CX k fa fd [x] sp) (y:∀(s:Shared) (u:Value),BindsTo s fd ⟨[u],[]⟩ [(x,u)])
  (T:∀H:Hp,rZ H->RdK K H a (ns.map V.int)->sp [.ref a] H (λv _=>v=.bl true) λ_ _ _=>False)
  (X:∀H e j,CX [] H s₁ (λ_ _ _=>False) e j->False):
  codeAny (model P w) callerA (.call (.ref fa) ⟨[.ref a],[]⟩) (λr j=>r=.ok (.ret (.bool true))/\OldK s₁.heap j.heap/\j.os=s₁.os/\AllBare j.gens) s₁:=by
 have Y:=DX hi;have J:=hi.length;have core:∀H:Hp,rZ H->RdK K H a (ns.map V.int)->HOk P w H s₁.heap->(∀b,H b≠none->b=a)->(H a≠none->K.lookup a=none) ->
   codeAny (model P w) callerA (.call (.ref fa) ⟨[.ref a],[]⟩) (λr j=>r=.ok (.ret (.bool true))/\OldK s₁.heap j.heap/\j.os=s₁.os/\AllBare j.gens) s₁:=by
  intro H hO hS hok hA hK
  have f:∀{b:Addr}{o:Obj},s₁.heap.get? b=some o->H b=none->(iV s₁.heap H).get? b=some o:=λe n=>Pn e n
  have R:∀{b:Addr}{o:Obj}{C:Array DictEntry}{E:Nat},s₁.heap.get? b=some o->o.data=.dict C E->H b=none:=λ{b o C E} e d=>by
   cases q:H b with
   |none=>rfl
   |some u =>
    have e':b=a:=hA b (by rw[q];simp);subst e';rw[Q] at e;cases e;have d':Data.seq vs.toArray _=Data.dict C E:=d;cases d'
  have t:∀{b:Addr}{m:Str->Option Value},s₁.heap.Ns b m->(iV s₁.heap H).Ns b m:=λ{b m} ⟨o,C,E,e,d,r⟩=>⟨o,C,E,f e (R e d),d,r⟩
  have I:K.In (iV s₁.heap H):=λb o e=>f (KX b o e) (by
   cases q:H b with
   |none=>rfl
   |some u =>
    have e':b=a:=hA b (by rw[q];simp);subst e'
    rw[hK (by rw[q];simp)] at e;cases e)
  have hM:Mod K mg (iV s₁.heap H):=⟨I,t G,⟨mb,t hb,U⟩,let ⟨mc,h1,h2⟩:=O;⟨mc,t h1,h2⟩⟩;have e0:iW P w K mg (iV s₁.heap H) callerA [] s₁ H:=⟨rfl,hM,λb o e=>Pq e,Nat.le_of_eq (Pk _ _),trivial,λb hb=>absurd (show b∈([]:List Addr) from hb) (by simp),hok,.of_eq hg⟩
  refine codeAny_mono ((F _ I (t G)).run callerA [] s₁ H ⟨[.ref a],[]⟩ [.ref a] [.ref a] _ _ hr e0 (y s₁ (.ref a)) (.cons rfl .nil) (T H hO hS)) λr j h=>?_
  cases r with
  |error e=>exact(X H e j h).elim
  |ok fl =>
   cases fl with
   |next=>exact False.elim h
   |brk=>exact False.elim h
   |cont=>exact False.elim h
   |ret u =>
    obtain⟨v,H',os,bare,un,L,r',q⟩:=h;have q':v=.bl true:=q;subst q';obtain rfl:u=Value.bool true:=r';refine⟨rfl,OldK.of_keep λb o e=>?_,os,bare⟩
    cases q:H b with
    |none=>exact un.keep b o e q (by intro z;exact absurd (show b∈([]:List Addr) from z) (by simp)) (by simp)
    |some u =>
     rcases hO b with z | ⟨ob,xs,z⟩
     ·rw[q] at z;cases z
     ·have z2:=un.frzs b ob _ z;obtain⟨e1,_⟩:=hok b _ z;obtain⟨e2,_⟩:=L b _ z2;rw[e] at e1;cases e1;exact e2
 cases hk:K.lookup a with
 |some o =>
  have e:=KX a o hk;rw[Q] at e;cases e
  refine core (λ_=>none) (λ_=>.inl rfl) (.inr ⟨vs,_,hk,by rw[J];exact Z,Y⟩) (λb u z=>by have z':(none:Option HO)=some u:=z;cases z') (λb z=>absurd rfl z) λz=>absurd rfl z
 |none =>
  refine core (λb=>if b=a then some (.frz {cls:=.type "list",data:=.seq vs.toArray} (.lst (ns.map V.int))) else none) (λb=>?_) (.inl (.inr ⟨{cls:=.type "list",data:=.seq vs.toArray},if_pos rfl⟩)) (λb u z=>?_) (λb z=>?_) λ_=>hk
  ·by_cases hb:b=a
   ·exact .inr ⟨_,_,if_pos hb⟩
   ·exact .inl (if_neg hb)
  ·by_cases hb:b=a
   ·have z':=(if_pos hb).symm.trans z;cases z';subst hb;exact⟨Q,by rw[zf];exact Z,vs,_,Y,Q⟩
   ·have z':=(if_neg hb).symm.trans z;cases z'
  ·by_cases hb:b=a
   ·exact hb
   ·exact absurd (if_neg hb) z
def walk_ofR{l:PySem.W.OpenLaw}       {K:Params->PySem.W.Frag}{CX:World->CXT}{sp:World->Sp}
  (hn:l.most=some n) (hn2:n<=sizeLine) (hdf:d.params.defaults=[]) (hr:aW k callerA)
  (hY:∀(w:World) (h:Heap),YP w h->(K w.params).In h)
  (F:∀(w:World) (mg:Str->Option Value) (fa:Addr) (h:Heap),(K w.params).In h->h.Ns mainGlobals mg->mg d.name=some (.ref fa) ->
   ∃fd:FuncData,(∀(s:Shared) (u:Value),BindsTo s fd ⟨[u],[]⟩ [(x,u)]) /\
    ∀base:Heap,(K w.params).In base->base.Ns mainGlobals mg->cz l.prog w (K w.params) mg base (CX w) k fa fd [x] (sp w))
  (hsp:∀(w:World) (H:Hp) (a:Addr) (ns:List Int),ns.length<=n->rZ H->RdK (K w.params) H a (ns.map V.int)->sp w [.ref a] H (λv _=>v=.bl true) λ_ _ _=>False)
  (hCX:∀(w:World) (H:Hp) (s:Shared) (e:Value) (s':Shared),CX w [] H s (λ_ _ _=>False) e s'->False):
  PySem.W.WalkO q loose XP YP l.row.toRowW d [] (λf vs=>PySem.call f vs):=by
 refine Att.attach_call hn hdf λw s₀ s₁ mg mb fa o pm cd doc a vs ns G Y ho hd hcd hmg hobj hints hlen hg=>?_
 have KX:=hY w _ Y;obtain⟨fd,hb,hF⟩:=F w mg fa _ KX G.T.g hmg
 exact XM KX G.T.g G.T.b G.T.builtins G.T.nolimit hg hobj hints (zN hlen hn2) hr hF hb (λH hO hS=>hsp w H a ns hlen hO hS) λH e s'=>hCX w H s₁ e s'
def XN{K:Frag}  :∀c∈([]:List Str),KC K mg c f:=λ_ h=>nomatch h
def XQ{K:Frag}    (h:KC K mg c f)(m:∀c∈t,KC K mg c f):∀j∈c::t,KC K mg j f:=λj d=>by
 rcases zk.mp d with rfl | d
 ·exact h
 ·exact m j d
def wF:Nat:=1000000
def tK(K:Frag):Sp:=λvs H Q _=>∃(a:Addr) (ns:List Int),vs=[.ref a]/\RdK K H a (ns.map V.int)/\ns.length<=63/\rZ H/\∀d,Q (.bl true) d
theorem Rps.ofInts{K:Frag}  :∀ns:List Int,Rps K F as (ns.map V.int) (ns.map D.int)
 | []=>Rps.nil
 |n::ns=>Rps.cons Rp.int (Rps.ofInts ns)
def XR{K:Frag}   (h:∀ns:List Int,ns.length<=63->∃d,c [.lst (ns.map D.int)] []=.ok (.bl true) d):∀vs H Q E,tK K vs H Q E->vSp K mg [.s] (rV K) c vs H Q E:=by
 rintro vs H Q E ⟨a,ns,rfl,hS,hl,hO,q⟩;obtain⟨d,e⟩:=h ns hl
 have r:RlO K mg [] H H []:=⟨Same.refl H,λb o e=>by
  rcases hO b with z | ⟨x,t,z⟩
  ·rw[e] at z;cases z
  ·rw[e] at z;cases z;rfl,List.nodup_nil,rfl,(λ_ z=>nomatch z),λn b o z=>by cases z⟩
 refine⟨[.lst _],[],H,[],.bl _,d,r,⟨.inl (Rp.mkL hS (Rps.ofInts ns)),trivial⟩,e,λv j y m g u f=>?_⟩;rw[Rp.unB f];exact q j
def keyOf:D->Option Key
 | .int i=>some (.inl i)
 | .str l=>some (.inr (S l))
 | _=>none
def Rp.key{K:Frag}      (h:Rp K F as v d)(e:keyOf d=some k):v=kV k:=by
 cases d with
 |int i=>cases e;exact h.unI
 |str l=>cases e;exact h.unS
 | _=>cases e
def Prs(K:Frag)(F:Hp)(f:List Addr):List (V×V)->List (D×D)->Prop
 | [],[]=>True
 |p::ps,d::ds=>Rp K F f p.1 d.1/\Rp K F f p.2 d.2/\Prs K F f ps ds
 | _,_=>False
def DPE(X:Cx)(md:List Md)(P:Pt)(x:Pos)(keys:List (Option Expr))(values:List Expr)(m:M (List (D×D))):Prop:=∃f:List (TE×TE),
 PPs X x keys values f/\∀σ H Q,(∃ρ O F j C E,RlO X.K X.mg O H F j/\SlO X.K md P ρ σ H F j/\m ρ O=.ok C E/\∀y t u d,Gr H F j t u d->RlO X.K X.mg E t u d->Prs X.K u d y C->Q y t)->wL f σ H Q
def XS:M (List (D×D)):=λ_ O=>.ok [] O
def XX(mk f:M D)(r:M (List (D×D))):M (List (D×D)):=λρ O=>(mk ρ O).bind λa t=>(f ρ t).bind λb m=>(r ρ m).bind λd j=>.ok ((a,b)::d) j
def keysOf:List (D×D)->Option (List Key)
 | []=>some []
 | (a,_)::r=>(keyOf a).bind λk=>(keysOf r).map (k :: ·)
def X3(m:M (List (D×D))):M D:=λρ O=>(m ρ O).bind λd j=>match keysOf d with
 |some f=>if f.Nodup/\d.length<=15 then .ok (.dic (d.map (·.1)) (d.map (·.2))) j else .no
 |none=>.no
def X4{p d:Pos}(C:Can X.prog X.w X.K X.mg X.base x ps k (vSp X.K X.mg E (rV X.K) cf))(m:aW k X.A)(y:AE X md P E (e::es) ma)(t:Gl X x:=by rfl)(j:(x == ("__debug__":Str))=false:=by decide)(u:starEach (e::es) X.env=(false,eval e X.env)::starEach es X.env:=by exact bM rfl)(f:(backTo d (starEach es X.env)).any (·.1)=false:=by exact cB rfl):
  VE X md P (.Call (.Name x p) (e::es) [] d) (aC cf ma):=Fv jy C m y t j u f
def X5{p d:Pos}(C:Can X.prog X.w X.K X.mg X.base x ps k (vSp X.K X.mg E (rO X.K) cf))(m:aW k X.A)(y:AE X md P E (e::es) ma)(t:Gl X x:=by rfl)(j:(x == ("__debug__":Str))=false:=by decide)(u:starEach (e::es) X.env=(false,eval e X.env)::starEach es X.env:=by exact bM rfl)(f:(backTo d (starEach es X.env)).any (·.1)=false:=by exact cB rfl):
  OE X md P (.Call (.Name x p) (e::es) [] d) (aC cf ma):=Fv fD C m y t j u f
def X6{d apos:Pos}{pl:Sem Bool}(M:iz X.prog X.w X.K X.mg X.base c m ps k (vSp X.K X.mg (.v::E) (rV X.K) cf))(x:aW k X.A)(y:VE X md P o mo)(C:AE X md P E (e::es) ma)(j:starEach (e::es) X.env=(false,eval e X.env)::starEach es X.env:=by exact bM rfl)(t:(backTo d (starEach es X.env)).any (·.1)=false:=by exact cB rfl)
  (u:eval (.Call (.Attribute o m apos) (e::es) [] d) X.env=(do
   let ov <-eval o X.env
   standAt apos.atName
   let (f,first) <-holding [ov] (getMethod ov m pl)
   callWith d f first (backTo d (starEach (e::es) X.env)) (backToKw d (keywordEach [] X.env))):=by rfl):VE X md P (.Call (.Attribute o m apos) (e::es) [] d) (aQ c m cf mo ma):=Gs jy M x y C j t u
def X7{d apos:Pos}{pl:Sem Bool}(M:iz X.prog X.w X.K X.mg X.base c m ps k (vSp X.K X.mg (.v::E) (rO X.K) cf))(x:aW k X.A)(y:VE X md P o mo)(C:AE X md P E (e::es) ma)(j:starEach (e::es) X.env=(false,eval e X.env)::starEach es X.env:=by exact bM rfl)(t:(backTo d (starEach es X.env)).any (·.1)=false:=by exact cB rfl)
  (u:eval (.Call (.Attribute o m apos) (e::es) [] d) X.env=(do
   let ov <-eval o X.env
   standAt apos.atName
   let (f,first) <-holding [ov] (getMethod ov m pl)
   callWith d f first (backTo d (starEach (e::es) X.env)) (backToKw d (keywordEach [] X.env))):=by rfl):OE X md P (.Call (.Attribute o m apos) (e::es) [] d) (aQ c m cf mo ma):=Gs fD M x y C j t u
def X8  (M:iz X.prog X.w X.K X.mg X.base c m ps k (vSp X.K X.mg [.v] (rV X.K) cf))(j:aW k X.A)(t:VE X md P o mo)
  (d:eval (.Call (.Attribute o m x) [] [] u) X.env=(do
   let ov <-eval o X.env
   standAt x.atName
   let (f,first) <-holding [ov] (getMethod ov m pl)
   callWith u f first (backTo u (starEach [] X.env)) (backToKw u (keywordEach [] X.env))):=by rfl):VE X md P (.Call (.Attribute o m x) [] [] u) (aQ c m cf mo ao):=Gu jy M j t d
def Yb  (M:iz X.prog X.w X.K X.mg X.base c m ps k (vSp X.K X.mg [.v] (rO X.K) cf))(j:aW k X.A)(t:VE X md P o mo)
  (d:eval (.Call (.Attribute o m x) [] [] u) X.env=(do
   let ov <-eval o X.env
   standAt x.atName
   let (f,first) <-holding [ov] (getMethod ov m pl)
   callWith u f first (backTo u (starEach [] X.env)) (backToKw u (keywordEach [] X.env))):=by rfl):OE X md P (.Call (.Attribute o m x) [] [] u) (aQ c m cf mo ao):=Gu fD M j t d
def tL:List D->List D->List D
 |d::ds,e::es=>.tup [d,e]::tL ds es
 | _,_=>[]
def Gv(ma mb:M D):M (List D):=λρ O=>(ma ρ O).bind λd j=>(mb ρ j).bind λe f=>match d,e with
 | .lst ds,.lst es=>.ok (tL ds es) f
 | _,_=>.no
noncomputable def qb(m:MS):MS:=λρ O=>match m ρ O with
 | .rt d O'=>.rt d O'
 | _=>.no
def SlO.toV{K:Frag}      (s:SlO K md P ρ σ H F as)(T:md[i]?=some .o)(ff:Same F F')
  (y:∀(j:Nat) (ds:List D) (a:Addr),j≠i->md[j]?=some .o->ρ[j]?=some (some (.lst ds))->σ[j]?=some (some (.ref a))->F' a=F a)
  (hv:∀d,ρ[i]?=some (some d)->∃v,σ[i]?=some (some v)/\Rp K F' as v d):SlO K (md.set i .v) P ρ σ H F' as:=by
 have U :=(zu.mp T).1
 have back:∀(j ),(md.set i Md.v)[j]?=some Md.o->j≠i/\md[j]?=some .o:=λj e=>by
  by_cases f:j=i
  ·subst f;rw[zQ U] at e;cases e
  ·rw[zj (Ne.symm f)] at e;exact⟨f,e⟩
 refine⟨by rw[jb];exact s.len,by rw[jb];exact s.len',s.pd,λj m d u Q=>?_,λj k a ds es h1 h2 h3 h4 Z Y=>s.inj j k a ds es (back j h1).2 (back k h2).2 h3 h4 Z Y,λx hx=>?_⟩
 ·by_cases f:j=i
  ·subst f;rw[zQ U] at u;cases u;exact hv d Q
  ·rw[zj (Ne.symm f)] at u;obtain⟨v,q,t⟩:=s.sl j m d u Q;refine⟨v,q,?_⟩
   cases m with
   |v=>exact Rp.mono ff (λ_ _ z=>z) _ t
   |s =>
    rcases t with t | ⟨a,C,ds,t1,t2,J,I,G,E⟩
    ·exact .inl (Rp.mono ff (λ_ _ z=>z) _ t)
    ·exact .inr ⟨a,C,ds,t1,t2,J,I,G,Rps.mono ff (λ_ _ z=>z) _ E⟩
   |o =>
    rcases t with⟨L,t⟩ | ⟨a,C,ds,rfl,rfl,J,L,I,G,E⟩
    ·exact .inl ⟨L,Rp.mono ff (λ_ _ z=>z) _ t⟩
    ·exact .inr ⟨a,C,ds,rfl,rfl,J,by rw[y j ds a f u Q q];exact L,I,G,Rps.mono ff (λ_ _ z=>z) _ E⟩
 ·obtain⟨O,X,W⟩:=s.pin x hx
  have R:i≠x.1:=λz=>by rw[<-z,T] at O;cases O
  exact⟨by rw[zj R];exact O,X,W⟩
def Yc{K:Frag}    (t:md[i]?=some .o){D:Ends}   (q:tMS K mg md P R (qb m) D σ H):tMS K mg (md.set i .v) P R m D σ H:=by
 obtain⟨ρ,O,F,y,r,s,k⟩:=q;unfold qb at k
 cases e:m ρ O with
 |rt  =>
  rw[e] at k
  by_cases G:∃x,ρ[i]?=some (some (.lst x))
  ·obtain⟨x,f⟩:=G;obtain⟨a,C,h1,h2,h3,h4,X,W⟩:=s.own t f
   have ff:Same F (upd F a (.lst C)):=λb u q=>by rw[aD (bT q h3)];exact q
   have Y:GrS P H F y H _ y:=⟨λc _ p _ _ _=>aD λz=>X (by rw[<-z];exact p),ff,⟨[],by simp⟩,λ_ _ _ h _ _=>h,λ_ h=>h,λ_ _ _ h=>h⟩;refine⟨ρ,O,upd F a _,y,r.frz h2 h3 h4 rfl,s.toV t ff (λj Z b U Q L E=>?_) λI d=>?_,?_⟩
   ·refine aD λz=>U ?_
    rw[z] at E;exact s.inj j i a Z x Q t L f E h1
   ·rw[f] at d;cases d;exact⟨_,h1,Rp.mkL (.inl (.inl bx)) (Rps.mono ff (λ_ _ z=>z) _ W)⟩
   ·rw[e]
    exact λv H' F' as' g J T=>k v H' F' _ (Y.trans g) J T
  ·refine⟨ρ,O,F,y,r,s.toV t (Same.refl F) (λ_ _ _ _ _ _ _=>rfl) λI d=>?_,by rw[e];exact k⟩;obtain⟨v,h1,h2⟩:=s.sl i .o I t d
   rcases h2 with⟨_,h2⟩ | ⟨a,C,x,_,rfl,_⟩
   ·exact⟨v,h1,h2⟩
   ·exact absurd ⟨x,d⟩ G
 | _=>rw[e] at k;exact False.elim k
def Yd(i:Nat){st:Stmt}  (d:md[i]?=some .o)(h:VS X (md.set i .v) P R st m):VS X md P R st (qb m):=h.imp λ_ _ _=>Yc d
noncomputable def mMl(m:M D):M D:=λρ O=>(m ρ O).bind λd f=>match d with
 | .lst ds=>.ok (.ob f.length) (f++[.ml ds])
 |d=>.ok d f
def xA  :∀(n:Nat) (c:Addr),d[n]?=some c->(d++[a])[n]?=some c:=λn c h=>by
 rw[zF (zu.mp h).1];exact h
def RlO.snocMl{K:Frag}        (r:RlO K mg O H F y)(u:H a=some (.lst xs))(x:F a=none)(t:a∉y)(hx:Rps K F y xs ds):RlO K mg (O++[.ml ds]) H F (y++[a]):=by
 refine⟨r.fh,r.fd,jg.mpr ⟨r.nd,by simp,λc f d hd=>by rw[zh.mp hd];exact λz=>t (z ▸ f)⟩,by rw[ze,ze,r.len];rfl,λc f=>?_,λn c o f j=>?_⟩
 ·rcases zx.mp f with f | f
  ·exact r.fa c f
  ·rw[zh.mp f];exact x
 ·by_cases m:n<y.length
  ·rw[zF m] at f;rw[zF (by rw[<-r.len];exact m)] at j;exact(r.ob n c o f j).keep rfl (Same.refl F) xA
  ·have hn':n=y.length:=by
    have:=(zu.mp f).1
    rw[ze,zR] at this;omega
   subst hn';rw[zL (zc _),Nat.sub_self] at f;rw[r.len,zL (zc _),Nat.sub_self] at j;cases f;cases j;exact⟨xs,u,Rps.mono (Same.refl F) xA _ hx⟩
def Ye   (h:OE X md P e m):VE X md P e (mMl m):=h.imp λσ H Q q=>by
 obtain⟨ρ,O,F,Y,d,O',r,s,e,k⟩:=q;obtain⟨x,O1,W,e⟩:=Res.bind_ok e;refine⟨ρ,_,F,Y,_,_,r,s,W,λv C E Z f t u=>?_⟩
 rcases u with⟨G,u⟩ | ⟨a,xs,ds,rfl,rfl,U,T,R,L,J⟩
 ·cases x with
  |lst =>cases G
  | _=>cases e;exact k v C E _ f t u
 ·cases e;obtain⟨new,I,y⟩:=f.nw;refine k _ C E _ ⟨f.fz,f.ff,⟨new++[a],by rw[I,zB],λc j=>?_⟩,f.fr,f.dm,f.kz⟩ (t.snocMl U T R J) (Rp.mkO ?_)
  ·rcases zx.mp j with j | j
   ·exact y c j
   ·rw[zh.mp j];exact L
  ·rw[<-t.len,zL (zc _),Nat.sub_self];rfl
def qd     (j:a∈t)(d:H a=some h)  (f:∀o u,h≠.frz o u:=by intro _ _ z;cases z):Gr H F t (upd H a o) F t :=
 ⟨λ_ _ _ _ _=>rfl,Same.refl F,⟨[],by simp⟩,λc u e hn _=>by rw[aD λz=>hn (by rw[z];exact j)];exact e,λc e=>by
  by_cases h:c=a
  ·subst h;rw[bx] at e;cases e
  ·rwa [aD h] at e,λc m u e=>by rw[aD λz=>by rw[z,d] at e;cases e;exact f _ _ rfl];exact e⟩
def RlO.mutO{K:Frag}         (r:RlO K mg O H F J)(f:J[n]?=some a)(hx:Rps K F J xs ds):RlO K mg (O.set n (.ml ds)) (upd H a (.lst xs)) F J:=by
 have E:=zJ f;refine⟨λc u e=>?_,r.fd,r.nd,by rw[jb];exact r.len,r.fa,λm c o j d=>?_⟩
 ·rw[aD (λz=>by rw[z,r.fa a E] at e;cases e)];exact r.fh c u e
 ·by_cases t:m=n
  ·subst t;rw[f] at j;cases j
   have x:m<O.length:=by rw[<-r.len];exact(zu.mp f).1
   rw[zQ x] at d;cases d;exact⟨xs,bx,hx⟩
  ·rw[zj (Ne.symm t)] at d
   refine(r.ob m c o j d).keep (aD λz=>t ?_) (Same.refl F) λ_ _ h=>h
   obtain⟨G,y⟩:=zu.mp j;obtain⟨I,C⟩:=zu.mp f;exact(List.getElem_inj r.nd).mp (y.trans (z.trans C.symm))
def RlO.ml{K:Frag}     {n:Nat}   (r:RlO K mg O H F j)(d:j[n]?=some a)(f:O[n]?=some (.ml ds)):∃xs,H a=some (.lst xs)/\Rps K F j xs ds:=r.ob n a _ d f
noncomputable def nY(mo m:M D):MS:=λρ O=>match mo ρ O with
 | .ok (.ob n) O1=>match O1[n]? with
  |some (.ml _)=>match m ρ O1 with
   | .ok d O2=>match O2[n]? with
    |some (.ml ds)=>if ds.length<1000000 then .nx ρ (O2.set n (.ml (ds++[d]))) else .no
    | _=>.no
   | _=>.no
  | _=>.no
 | _=>.no
def Yg{R:RR}  {apos f C:Pos}  (ho:VE X md P o mo)(h:VE X md P e m)
  (u:attributeBase o "append" X.env (eval o X.env)=eval o X.env:=by rfl)
  (E:((backTo f (starEach [e] X.env)).all (λx=>!x.1)&&(backToKw f (keywordEach [] X.env)).all (λx=>x.1.isSome)&&decide ([e].length+([]:List Keyword).length+(if([]:List Keyword).isEmpty then 0 else 1)<30))=true:=by rfl)
  (t:(apos.endLine == f.line)=true:=by rfl) (hs:starEach [e] X.env=(false,eval e X.env)::starEach [] X.env:=by exact bM rfl) (G:(backTo f (starEach [] X.env)).any (·.1)=false:=by exact cB rfl)
  (hsw:swapsWith (.Call (.Attribute o "append" apos) [e] [] f) none C.line X.env=pure false:=by rfl):
  VS X md P R (.Expr (.Call (.Attribute o "append" apos) [e] [] f) C) (nY mo m):=
 (m9 (j4 PySem.F.plainAttrs_list PySem.F.slot_list_append PySem.F.type_list_append DW ho (dY h fC hs) u E t hs)).imp λD σ H q=>by
  obtain⟨ρ,O,F,as,r,s,k⟩:=q;unfold nY at k;split at k
  ·rename_i n O1 e1;split at k
   ·rename_i ds0 e2;split at k
    ·rename_i d O2 e3;split at k
     ·rename_i ds e4;split at k
      ·rename_i hz;refine⟨ρ,O,F,as,_,_,r,s,e1,λv H1 F1 T J r1 hv=>?_⟩;obtain⟨a,rfl,ha⟩:=Rp.unO hv;obtain⟨Q,x1,x2⟩:=r1.ml ha e2;refine⟨.inl ⟨rfl,Q,.inl (.inl x1)⟩,ρ,O1,F1,T,d,O2,r1,s.step J,e3,λy H2 L as2 I Z hy=>?_⟩;have j:=I.at_ n a ha;obtain⟨Y,W,U⟩:=Z.ml j e4;have g3:Gr H2 L _ (upd H2 a (.lst (Y++[y]))) L _:=qd (zJ j) W;exact⟨a,Y,y,rfl,rfl,W,by rw[U.length];exact zK hz (by decide),k σ _ L _ ((J.trans I).trans g3).toS (Z.mutO j (U.snoc hy)) (s.step ((J.trans I).trans g3))⟩
      ·exact False.elim k
     ·exact False.elim k
    ·exact False.elim k
   ·exact False.elim k
  ·exact False.elim k
def tO(K:Frag)(mg:Str->Option Value)(x:Str)(ls:List (List Nat)):Prop:=∃(a:Addr) (o:Obj) (d:Array Value) (n:Nat),mg x=some (.ref a)/\K.lookup a=some o/\o.cls=.type "tuple"/\o.data=.seq d n/\d.size<=sizeLine/\aF (ls.map λl=>V.str (S l)) d.toList
theorem Rps.texts{K:Frag}  :∀ls:List (List Nat),Rps K F as (ls.map λl=>V.str (S l)) (ls.map D.str)
 | []=>Rps.nil
 |l::ls=>Rps.cons Rp.str (Rps.texts ls)
def Yh  {md:List Md}{P:Pt}   {f:Pos}(h:tO X.K X.mg x ls)(y:Gl X x:=by rfl)(m:(x == ("__debug__":Str))=false:=by decide):VE X md P (.Name x f) (mC (.tup (ls.map D.str))):=by
 obtain⟨a,o,j,n,t,u,h1,h2,h3,h4⟩:=h
 refine(Em (v:=.ref a) ⟨_,t,rfl⟩ y m).imp λσ H Q q=>?_
 obtain⟨ρ,O,F,C,d,E,r,s,e,k⟩:=q;cases e;exact k _ H F C Gr.refl r (Rp.mkT (.inr ⟨o,j,n,u,h1,h2,h3,h4⟩) (Rps.texts ls))
theorem qe{α:Type}{p:List α->Prop}(h:p []):∀us:List α,us.length=0->p us:=λus e=>by
 cases us with
 |nil=>exact h
 |cons a d=>cases e
theorem fZ{α:Type}{p:List α->Prop}  (h:∀a,∀us:List α,us.length=n->p (a::us)):∀us:List α,us.length=n+1->p us:=λus e=>by
 cases us with
 |nil=>cases e
 |cons a d=>exact h a d (Nat.succ.inj e)
def RlO.snocO{K:Frag}   (r:RlO K mg O H F C)(y:F a=none)(x:a∉C)(t:ObR K mg H F (C++[a]) a o):RlO K mg (O++[o]) H F (C++[a]):=by
 refine⟨r.fh,r.fd,jg.mpr ⟨r.nd,by simp,λc f d hd=>by rw[zh.mp hd];exact λz=>x (z ▸ f)⟩,by rw[ze,ze,r.len];rfl,λc f=>?_,λn c u f j=>?_⟩
 ·rcases zx.mp f with f | f
  ·exact r.fa c f
  ·rw[zh.mp f];exact y
 ·by_cases m:n<C.length
  ·rw[zF m] at f;rw[zF (by rw[<-r.len];exact m)] at j;exact(r.ob n c u f j).keep rfl (Same.refl F) xA
  ·have hn':n=C.length:=by
    have:=(zu.mp f).1
    rw[ze,zR] at this;omega
   subst hn';rw[zL (zc _),Nat.sub_self] at f;rw[r.len,zL (zc _),Nat.sub_self] at j;cases f;cases j;exact t
def RlO.mutG{K:Frag}     (r:RlO K mg O H F J)(f:J[n]?=some a)(hx:ObR K mg (upd H a h) F J a o):RlO K mg (O.set n o) (upd H a h) F J:=by
 have E:=zJ f;refine⟨λc u e=>?_,r.fd,r.nd,by rw[jb];exact r.len,r.fa,λm c u j d=>?_⟩
 ·rw[aD (λz=>by rw[z,r.fa a E] at e;cases e)];exact r.fh c u e
 ·by_cases t:m=n
  ·subst t;rw[f] at j;cases j
   have x:m<O.length:=by rw[<-r.len];exact(zu.mp f).1
   rw[zQ x] at d;cases d;exact hx
  ·rw[zj (Ne.symm t)] at d
   refine(r.ob m c u j d).keep (aD λz=>t ?_) (Same.refl F) λ_ _ h=>h
   obtain⟨G,y⟩:=zu.mp j;obtain⟨I,C⟩:=zu.mp f;exact(List.getElem_inj r.nd).mp (y.trans (z.trans C.symm))
def RlO.unF{K:Frag}  (r:RlO K mg O H F as)(d:H p=none):F p=none:=by
 cases e:F p with
 |none=>rfl
 |some o=>rw[r.fh p o e] at d;cases d
def Gr.snoc   (d:H p=none):Gr H F j (upd H p o) F (j++[p]):=
 ⟨λ_ _ _ _ _=>rfl,Same.refl F,⟨[p],rfl,λa h=>by rw[zh.mp h];exact d⟩,λa u e _ _=>by rw[aD (bT e d)];exact e,λa e=>by
  by_cases h:a=p
  ·subst h;exact d
  ·rwa [aD h] at e,λa f u e=>by rw[aD (bT e d)];exact e⟩
end L2
namespace L2
open PySem PySem.Spec PyProof.Rows PySem.W PySem.Calls
def Keeps(s:Shared)(a:Addr)(h':Heap):Prop:=∀b o,b≠a->s.heap.get? b=some o->h'.get? b=some o
structure Gw(mg:Str->Option Value):Prop extends Blt mg where
 sorted_:mg "sorted" = none
end L2
namespace L2
open PySem PySem.Spec PyProof.Rows
abbrev Yi(h:Heap)(z TI TO T:Addr)(b:Bool):Prop :=
 h.get? z=some {cls:=.type "zip",dict:=none,data:=.fields #[rawInt T,.bool b,.bool false,.ref TI,.ref TO],slots:=#[]}
structure ZS(base:Nat)(h:Heap)(z TI TO i1 i2 l1 l2 S:Addr)(xs ys acc:Array Value)(c i:Nat):Prop where
 zi:(IsZip h z TI TO .none/\∃a b,IsPair h TO a b)\/∃T b o,Yi h z TI TO T b/\h.get? T=some o/\T∉[z,TO,i1,i2,S]
 ti:IsPair h TI (.ref i1) (.ref i2)
 it1:h.IsListIter i1 l1 i
 it2:h.IsListIter i2 l2 i
 a1:h.IsList l1 xs
 a2:h.IsList l2 ys
 ls:h.get? S=some {cls:=.type "list",dict:=none,data:=.seq acc c,slots:=#[]}
 sz:acc.size=i
 tl:TO<h.objs.size
 nd:acc.toList.Nodup
 ts:∀(j:Nat) (v:Value),acc[j]?=some v->∃(T:Addr) (x y:Value),v=Value.ref T/\xs[j]?=some x/\ys[j]?=some y/\IsPair h T x y/\T∉[z,TO,i1,i2,S]/\base<=T
theorem Gx{α β:Type}{R:α->β->Prop}:∀(ps:List α) (vs:List β),ps.length=vs.length->(∀(j:Nat) p v,ps[j]?=some p->vs[j]?=some v->R p v)->Paired R ps vs
 | [],[],_,_=>.nil
 | [],_::_,h,_=>by cases h
 | _::_,[],h,_=>by cases h
 |p::ps,v::vs,h,f=>.cons (f 0 p v rfl rfl) (Gx ps vs (Nat.succ.inj h) λj p v a b=>f (j+1) p v a b)
end L2
namespace L2
open PySem PySem.Spec PyProof.Rows PySem.W
end L2
namespace L2
open PySem PySem.Spec PyProof.Rows
def Yj(i:Int)(h:0<=i):Str.ofString (toString i)=S ((Nat.toDigits 10 i.toNat).map Char.toNat):=by
 obtain⟨m,rfl⟩:∃m:Nat,i=(m:Int):=⟨i.toNat,(Int.toNat_of_nonneg h).symm⟩;rw[Int.toNat_natCast,<-PySem.W.KIN.signs_num m,Ug]
def nZ:List D->Option D
 | [.int i]=>if 0<=i/\i<1000000000 then some (.str ((Nat.toDigits 10 i.toNat).map Char.toNat)) else none
 | _=>none
def Yk:kO X (.type "str") nZ:=by
 intro pins s σ H x j Q I m h;obtain⟨O,F,C,y,d,r,f,e,k⟩:=h;unfold nZ at e;split at e
 ·rename_i i;split at e
  ·rename_i u;obtain⟨v,rfl,t⟩:=f.one;cases e;cases(t.rp rfl).unI;refine Ru pins s σ H _ j Q I m ⟨i,rfl,shown (N:=2 ^ 1920) (by omega) (by omega) (Int.le_refl _),?_⟩;have z:=Yj i u.1;refine bL (v:=.str (Str.ofString (toString i))) r k rfl ?_;rw[z];exact Rp.str
  ·cases e
 ·cases e
structure QEx(mg:Str->Option Value):Prop extends Gw mg where
 reversed_:mg "reversed" = none
end L2
namespace L2
open PySem PySem.Spec PyProof.Rows PySem.W
def mdI:Option Int->List Int->Option Int
 |b,[]=>b
 |none,n::r=>mdI (some n) r
 |some m,n::r=>mdI (some (if n<m then n else m)) r
def MdV(d v:Value):Option Int->Prop
 |none=>v=d
 |some m=>∃t,v=.int m t
def MdB(bs:Array Value):Option Int->Prop
 |none=>bs = #[]
 |some m=>∃t,bs = #[.int m t,.int m t]
theorem Yl{d:String}    {s:Shared}  (u:builtinKind d=none)(t:plainId d=true)(x:entryFor table d=some b)(m:argsOk d ⟨as,kw⟩)
  (c0:wpAny (model prog w) A.in1 (b ⟨as,kw⟩) (λfin j=>match fin with
   | .done f=>(match(Except.ok f:Result) with | .ok (.ret v)=>Q v j | .ok _=>False | .error e=>E e j)
   | .again c=>c.quiet=true/\codeAny (model prog w) A c (λr j=>match r with | .ok (.ret v)=>Q v j | .ok _=>False | .error e=>E e j) j) E s):
  wpAny (model prog w) A (call (.builtin d) as kw) Q E s:=by
 refine wpAny_call (codeAny_call_builtin t x ?_);simp  [checkBuiltinCall,u]
 cases g0:Manifest.signature? d with
 |none=>exact zb c0
 |some sg =>
  simp  [argsOk,g0] at m
  have z :=m;show wpAny _ _ (Bind.checkArgs d sg _) _ _ s;rw[z];exact zb c0
def Ym     (q:Q (.bool (decide (n<m))) s):wpAny (model prog w) A (richCompare .Lt (.int n t) (.int m u)) Q E s :=
 CmpOf.ints_lt (λi=>if i=0 then n else m) (λ_ _ z=>z) 0 1 _ _ s Q E ⟨t,rfl⟩ ⟨u,rfl⟩ q
def Yn{w:World}{A:Around}{R:Result->Shared->Prop}{l G S:Addr}{j:List Value}{d:Value}(hh:A.in1.handled=none)(n1:l≠G)(n2:S≠G)(n3:S≠l):
  ∀(us:List Value) (ns:List Int) (pre:List Value) (b:Option Int) (bs:Array Value) (s:Shared) (c:Nat),j=pre++us->aF (ns.map V.int) us->s.heap.IsListIter G l pre.length->s.heap.IsList l j.toArray->MdB bs b ->
   s.heap.get? S=some {cls:=.type "list",dict:=none,data:=.seq bs c,slots:=#[]} ->
   (∀v h' tk,MdV d v (mdI b ns)->(∀x o,x≠G->x≠S->s.heap.get? x=some o->h'.get? x=some o)->R (.ok (.ret v)) {s with heap:=h',toks:=tk}) ->
   codeAny (model prog w) A (.builtin "min.loop" ⟨[.ref G,.none,.ref S],[("default",d)]⟩) R s:=by
 have W:=Walks.list (prog:=prog) (w:=w) hh G l n1 j.toArray
 have nm:(toString "min" ++ toString ".loop":String) = "min.loop":=by decide
 have nS:S∉[G]:=λz=>n2 (zh.mp z)
 have ni:∀x:Addr,x≠G->x∉[G]:=λx z y=>z (zh.mp y)
 intro us
 induction us with
 |nil =>
  intro ns pre b bs s c e Z it hl Q T hR
  have ens:ns=[]:=by
   cases ns with
   |nil=>rfl
   |cons=>cases Z
  subst ens
  have el:pre.length=j.toArray.size:=by rw[e];simp
  rw[el] at it;refine jc PySem.F.entry_min_loop ?_;rw[Around.under_plainId PySem.F.plain_min_loop _];show wpAny _ A.in1 (seqItems? (.ref S) >>= _) _ _ s;refine za (wpAny_seqItems T rfl ?_);show wpAny _ A.in1 (tryCatch (pyNext (.ref G)) _ >>= _) _ _ s;refine za (wpAny_tryCatch (W.done s _ _ ⟨it,hl⟩ λh1 tk kp=>?_));have E:=kp S _ nS T
  cases b with
  |none =>
   have C:bs = #[]:=Q;subst C;show wpAny _ A.in1 (rule _ >>= _) _ _ _;refine za (zW ?_);exact zb (hR d h1 tk rfl λx o P Y q=>kp x o (ni x P) q)
  |some m =>
   obtain⟨t,C⟩:=Q;subst C;show wpAny _ A.in1 (updateSeq S (λ_=>#[]) >>= _) _ _ _;refine za ?_;refine jm E rfl (za (wpAny_letGo (zb ?_)))
   exact hR (.int m t) _ tk ⟨t,rfl⟩ λx o P Y q=>(jh _ _ (Ne.symm Y)).trans (kp x o (ni x P) q)
 |cons u us ih =>
  intro ns pre b bs s c e Z it hl Q T hR
  cases ns with
  |nil=>cases Z
  |cons n ns =>
   have rv':aF (V.int n::ns.map V.int) (u::us):=Z
   obtain⟨ru,rus⟩:RelV (.int n) u/\aF (ns.map V.int) us:=by
    cases rv' with
    |cons a b=>exact⟨a,b⟩
   obtain⟨I,rfl⟩:=ru
   have el:pre.length<j.toArray.size:=by rw[e];simp
   have e':j=(pre++[Value.int n I])++us:=by rw[e];simp
   have eg:j.toArray[pre.length]?=some (Value.int n I):=by rw[e];simp
   refine jc PySem.F.entry_min_loop ?_;rw[Around.under_plainId PySem.F.plain_min_loop _];show wpAny _ A.in1 (seqItems? (.ref S) >>= _) _ _ s;refine za (wpAny_seqItems T rfl ?_);show wpAny _ A.in1 (tryCatch (pyNext (.ref G)) _ >>= _) _ _ s;refine za (wpAny_tryCatch (W.item pre.length s _ _ el ⟨it,hl⟩ λv h1 tk hv st kp=>?_));rw[eg] at hv;cases hv;have E:=kp S _ nS T
   have O:∀(h2:Heap) (y:Addr) (o:Obj),y≠S->h2.get? y=some o->∀f,(h2.update S f).get? y=some o:=λh2 y o z q f=>(jh _ _ (Ne.symm z)).trans q
   have go:∀(b2:Option Int) (L:Array Value) (h2:Heap) (U:Nat) (c2:Nat),MdB L b2->mdI b2 ns=mdI b (n::ns)->h2.get? S=some {cls:=.type "list",dict:=none,data:=.seq L c2,slots:=#[]} ->
     (∀x o,x≠S->h1.get? x=some o->h2.get? x=some o)->codeAny (model prog w) A (.builtin "min.loop" ⟨[.ref G,.none,.ref S],[("default",d)]⟩) R {s with heap:=h2,toks:=U}:=λb2 L h2 U c2 q1 q2 q3 q4=>by
    have X:=W.frame _ h1 h2 st λx hx o q=>q4 x o (λz=>by
     rcases zk.mp hx with rfl | hx
     ·exact n2 z.symm
     ·rcases zk.mp hx with rfl | hx
      ·exact n3 z.symm
      ·cases hx) q
    refine ih ns (pre++[Value.int n I]) b2 L _ c2 e' rus (by rw[ze];exact X.1) X.2 q1 q3 λv h3 tk3 P Y=>?_
    exact hR v h3 tk3 (q2 ▸ P) λx o y1 y2 q=>Y x o y1 y2 (q4 x o y2 (kp x o (ni x y1) q))
   cases b with
   |none =>
    have C:bs = #[]:=Q;subst C;show wpAny _ A.in1 (updateSeq S (λ_=>#[Value.int n I,Value.int n I]) >>= _) _ _ _;refine za ?_;refine jm E rfl ?_;rw[nm];exact zb ⟨plainId_quiet PySem.F.plain_min_loop _,go (some n) _ _ _ _ ⟨I,rfl⟩ rfl (Heap.get?_update_self _ E rfl) λx o z q=>O _ x o z q _⟩
   |some m =>
    obtain⟨t,C⟩:=Q;subst C;show wpAny _ A.in1 (tryCatch (holding [Value.int n I,Value.int n I] (richCompare .Lt (.int n I) (.int m t) >>= _)) _ >>= _) _ _ _;refine za (wpAny_tryCatch (zS (za (Ym ?_))));refine za (zS (wpAny_truthy_bool ?_));refine za (wpAny_letGo (zb ?_))
    by_cases J:n<m
    ·rw[zv J];simp only[if_true];refine za ?_;refine jm E rfl (za (wpAny_letGo ?_));rw[nm];exact zb ⟨plainId_quiet PySem.F.plain_min_loop _,go (some n) _ _ _ _ ⟨I,rfl⟩ (by show _=mdI (some (if n<m then n else m)) ns;rw[if_pos J]) (Heap.get?_update_self _ E rfl) λx o z q=>O _ x o z q _⟩
    ·rw[zq J];simp only[Bool.false_eq_true,if_false];refine za (wpAny_letGo ?_);rw[nm];exact zb ⟨plainId_quiet PySem.F.plain_min_loop _,go (some m) _ _ _ _ ⟨t,rfl⟩ (by show _=mdI (some (if n<m then n else m)) ns;rw[if_neg J]) E λx o z q=>q⟩
def tQ:List D->Option D
 | [.lst ds]=>(d9 ds).map λns=>match mdI none ns with
  |some m=>.int m
  |none=>.non
 | _=>none
def Yo(a d:Value):argsOk "min" ⟨[a],[("default",d)]⟩:=by kernel_rfl
def Yp(x:X.calm=true)   {σ:St}     (I:Inv X pins σ H s)(u:SqL X.K H a (ns.map V.int))(q:Q (match mdI none ns with | some m=>.int m | none=>.non) H):
  wpAny (model X.prog X.w) X.A (call (.builtin "min") [.ref a] [("default",.none)]) (EP X pins σ Q) X.xe s:=by
 obtain⟨y,j,pl,_⟩:=I.list u;have d:=pl.isList
 have la:a<s.heap.objs.size:=by obtain⟨_,z,_⟩:=d;exact zl z
 refine Yl PySem.F.kind_min PySem.F.plain_min PySem.F.entry_min (Yo _ _) ?_;refine za (wpAny_of_eq ((rfl)) ?_);refine za (zb ?_);refine za (wpAny_pyIter_list d ?_);refine za (wpAny_newObj_type ?_);have sz:(s.heap.push {cls:=.type "list_iterator",data:=.fields #[.ref a,.int 0 0]}).objs.size=s.heap.objs.size+1:=Heap.size_push ..
 refine zb ⟨plainId_quiet PySem.F.plain_min_loop _,Yn (I.ok.hd x) (zp la) (Nat.ne_of_gt (by rw[sz];exact jd _)) (Nat.ne_of_gt (by rw[sz];exact jk la)) _ ns [] none _ _ 0 rfl j
  ⟨_,zo _ (zy _ rfl),rfl,rfl⟩ ((d.push _).push _) rfl (zy _ rfl) λv h1 tk f kp=>?_⟩
 have t :=λb o z=>kp b o (zp (zl z)) (zp (by rw[sz];exact jk (zl z))) (zo _ (zo _ z))
 refine⟨_,H,I.kept t,?_,q⟩
 cases e:mdI _ ns with
 | none
 |some m =>
  rw[e] at f;exact f
def Yq{p f E C:Pos}{j:Nat}   (T:X.calm=true)(J:X.mg "min" = none)(U:SE X md P e m)(L:Gl X "min":=by rfl)(hs:starEach [e] X.env=(false,eval e X.env)::starEach [] X.env:=by exact bM rfl)(x:(backTo f (starEach [e] X.env)).any (·.1)=false:=by exact cB rfl)
  (R:backTo f (starEach [e] X.env)=(false,eval e X.env)::backTo f (starEach [] X.env):=by rfl):
  OE X md P (.Call (.Name "min" p) [e] [⟨some "default",.Constant .none j E,C⟩] f) (aU tQ (aj m ao)):=by
 intro pins s σ H Q I q;refine wpAny_Call_Name_kw (jZ I L J boot_min ?_);have q':=w5 (ms:=[.s]) q;refine callWith_kw (thn (Ex U Eu hs _ _ s σ H _ I q') λus s1 ⟨vs,H1,I1,r1,q1⟩=>?_) R x;refine kws_cons (Constant_none (kws_nil ?_));obtain⟨O,F,as,Z,d,r,t,e,k⟩:=q1;unfold tQ at e;split at e
 ·rename_i W;obtain⟨v,rfl,G⟩:=t.one;obtain⟨a,Y,rfl,h1,h2⟩:=G.list r.fh;obtain⟨u,rfl,y⟩:=vals1 r1;cases y
  cases hi:d9 W with
  |none=>rw[hi] at e;cases e
  |some ns =>
   rw[hi] at e;cases e;have hx:=h2.ints hi;refine Yp T I1 (by rw[<-hx];exact h1.sq) ?_
   cases em:mdI _ ns with
   |none =>
    dsimp  at k
    rw[em] at k;exact bL r k rfl Rp.non
   |some m =>
    dsimp  at k
    rw[em] at k;exact bL r k rfl Rp.int
 ·cases e
noncomputable def Itd(lo:Int)(n:Nat):It:=⟨λi _=>i<n,λi H x d=>d=H/\x=.int (lo - i),λi _=>n<=i⟩
def jD(lo:Int)(n:Nat):List D:=(List.range n).map λi:Nat=>.int (lo - i)
def Yr   {K:PySem.W.Frag}  (it:Addr)(lo:Int)(n:Nat):Turn P w K tg (Itd lo n) [it] it (λi h=>IsRangeIter h it (lo+(i:Nat) * (-1)) ((n:Int) - (i:Nat)) (-1)) where
 mem:=by simp
 obj:=λi h st b hb=>by
  have e:b=it:=by simpa using hb
  subst e
  exact⟨_,st,λv z=>by
   have z':Data.fields _=Data.cell v:=z
   cases z'⟩
 keep:=λi h h' st k=>k it (by simp) _ st
 item:=by
  intro X hP hw hK hc i pins s σ H E I hf st hg;subst hP hw hK;obtain⟨f0,f1,f2,f3,f4,f5⟩:=hf it (by simp);have W:=Walks.range (prog:=X.prog) (w:=X.w) (I.ok.hd hc) it lo (-1) n
  refine W.item i s _ _ hg st λv h' tk hv st' kk=>?_
  obtain⟨t,rfl⟩:=hv;have I1:Inv X pins σ H {s with heap:=h',toks:=tk}:=I.turned (λb o hb e=>kk b o (by simpa using hb) e) f0 f1 f3 f4 f5;refine⟨_,rfl,nj (s:={s with heap:=h',toks:=tk}) (n:="range_iterator") st' rfl rfl (by decide) ⟨.int (lo - i),H,I1,⟨t,?_⟩,⟨rfl,rfl⟩,st',λb hb=>(hf b hb).1⟩⟩;rw[show lo+(i:Int) * (-1)=lo - i by omega]
 done:=by
  intro X hP hw hK hc i pins s σ H E I hf st hg;subst hP hw hK;obtain⟨f0,f1,f2,f3,f4,f5⟩:=hf it (by simp)
  exact wpAny_pyNext_range_end (I.ok.hd hc) st (by have:n<=i:=hg;omega) λh' eb=>⟨rfl,I.turned (t':=s.toks) (λb o hb e=>eb b o hb e) f0 f1 f3 f4 f5⟩
 self:=λ_ _ _ _ _ st h=>wpAny_pyIter_rangeiter st h
def Gy(a b:Int):Builtin.Range.rangeSize a b (-1)=if a>b then a - b else 0:=by
 unfold Builtin.Range.rangeSize;rw[if_neg (by decide)]
 split
 ·rw[show -(-1)=1 by decide];omega
 ·rfl
def small_down  (j:-(2 ^ 62)<=a)(f:a<2 ^ 62)(hb:-(2 ^ 62)<=b)(d:b<2 ^ 62):Builtin.Range.small a b (-1)=true:=by
 unfold Builtin.Range.small;rw[Gy];simp  [Builtin.Range.rangeFitsLong,if_false]
 split<;>omega
def Ys(f:TA):TI:=λσ H R=>f σ H λd m=>∃i j:Int,d=[.int i,.int j,.int (-1)]/\(-(2 ^ 62)<=i/\i<2 ^ 62/\-(2 ^ 62)<=j/\j<2 ^ 62)/\R (Itd i (i - j).toNat) m
def Yt{m:Expr}   {p j:Pos}(y:Gl X "range")(x:X.mg "range" = none)(E:PA X [a,b,c] ta)(hs:starEach [a,b,c] X.env=[(false,eval a X.env),(false,eval b X.env),(false,eval c X.env)]:=by rfl)(d:starEach [b,c] X.env=[(false,eval b X.env),(false,eval c X.env)]:=by rfl):
  PI X m (.Call (.Name "range" p) [a,b,c] [] j) (Ys ta):=by
 intro pins s σ H R I h;refine Call_ (jZ I y x boot_range (PyProof.Rows.callWith_type1 (thn (E _ _ s σ H _ I h) λus s1 ⟨vs,H1,I1,r1,q1⟩=>?_) (by rw[hs,d]) (by rw[d];rfl)));obtain⟨lo,f,e,⟨h1,h2,h3,h4⟩,q⟩:=q1;subst e
 cases r1 with
 |cons r rr =>
  cases rr with
  |cons r' rr =>
   cases rr with
   |cons r'' rr =>
    cases rr;obtain⟨t,rfl⟩:=r;obtain⟨u,rfl⟩:=r';obtain⟨v,rfl⟩:=r'';refine call_range_3 (by decide) ?_;refine wpAny_pyIter_range (IsRange.new ..) (small_down h1 h2 h3 h4) ?_
    have J:Inv X _ σ H1 {s1 with heap:=s1.heap.push {cls:=.type "range",data:=.fields #[.int lo t,.int f u,.int (-1) v]}}:=I1.kept λb o e=>zo _ e
    refine⟨(s1.heap.push _).objs.size,[(s1.heap.push _).objs.size],_,_,H1,rfl,
     J.kept λb o e=>zo _ e,Yr _ lo _,?_,λb C=>?_,q⟩
    ·have G:lo+(0:) * -1=lo:=by simp
     have F:(lo - f).toNat - (0:)=Builtin.Range.rangeSize lo f (-1):=by rw[Gy];split<;>omega
     rw[G,F];exact zy _ rfl
    ·have e:b=(s1.heap.push {cls:=.type "range",data:=.fields #[.int lo t,.int f u,.int (-1) v]}).objs.size:=by simpa using C
     subst e;exact J.fpOk (zc _) (J.hok.fresh (zc _))
def Yu{K:Frag}  {lo:Int}   :lR K mg P (Itd lo n) (jD lo n) H F u:=xn (λi d m e=>by
 unfold jD at e;rw[zC] at e
 by_cases f:i<n
 ·rw[List.getElem?_range f] at e;cases e;refine⟨f,λx t y=>?_⟩;obtain⟨j,rfl⟩:=y;exact⟨j,λ_ _ _=>Rp.int⟩
 ·rw[jq (by simpa using f)] at e
  cases e) λm=>by simp[jD,Itd]
def tR(m:M (List D)):M (List D):=λρ O=>(m ρ O).bind λd f=>match d with
 | [.int i,.int j,.int c]=>if c = -1/\i<=1000000000/\-1000000000<=i/\j<=1000000000/\-1000000000<=j then .ok (jD i (i - j).toNat) f else .no
 | _=>.no
def bN.three{K:Frag}      (h:bN K H F as [m1,m2,m3] vs [d,e,f]):∃v u z,vs=[v,u,z]/\rA K m1 (λ_=>True) H F as v d/\rA K m2 (λ_=>True) H F as u e/\rA K m3 (λ_=>True) H F as z f:=by
 cases vs with
 |nil=>exact h.elim
 |cons v vs =>
  obtain⟨h1,h2⟩:=h;obtain⟨u,z,rfl,h3,h4⟩:=bN.two h2;exact⟨v,u,z,rfl,h1,h3,h4⟩
def Yv{x:Expr}  {p d:Pos}  (I:X.mg "range" = none)(R:AE X md P [.s,.s,.s] [a,b,c] m)(L:Gl X "range":=by rfl)(hs:starEach [a,b,c] X.env=[(false,eval a X.env),(false,eval b X.env),(false,eval c X.env)]:=by rfl)(t:starEach [b,c] X.env=[(false,eval b X.env),(false,eval c X.env)]:=by rfl):
  VI X md P x (.Call (.Name "range" p) [a,b,c] [] d) (tR m):=(Yt L I R hs t).imp λσ H Q q=>by
 obtain⟨ρ,O,F,as,ds,O',r,s,e,k⟩:=q;obtain⟨es,O1,Z,e⟩:=Res.bind_ok e;split at e
 ·rename_i i j c;split at e
  ·rename_i J;cases e;obtain⟨rfl⟩:=J;refine⟨ρ,_,F,as,_,_,r,s,Z,λvs H1 F1 as1 T y E=>?_⟩;obtain⟨v,u,z,rfl,f,G,C⟩:=E.three;have Y:=(Sv.rp f rfl).unI;have W:=(Sv.rp G rfl).unI;have U:=(Sv.rp C rfl).unI;subst Y W U;exact⟨i,j,rfl,⟨by omega,by omega⟩,k _ H1 F1 _ T y Yu⟩
  ·cases e
 ·cases e
section
variable {X:Cx}{pins:List (Addr×Obj)}{σ:List (Option V)}{H:Hp}{s:Shared}{a:Addr}{xs:List (List Key×V)}{o:Obj}
def Inv.reword{u:HO}(I:Inv X pins σ H s)(ha:H a≠none)(hn:∀ys,H a≠some (.tup ys))(ho:∀y,H a≠some (.own y))(hb:∀ps,H a≠some (.tbl ps))(hf:∀o u,X.H₀ a≠some (.frz o u))(new:bU X.prog X.w (upd H a u) s.heap a u):Inv X pins σ (upd H a u) s where
 ok:=I.ok
 os:=I.os
 bare:=I.bare
 base:={
  keep:=I.base.keep
  slot:=I.base.slot
  free:=λb o' q n hx=>by
   have z:=I.base.free b o' q n hx;rw[aD (by intro e;have w:=z;rw[e] at w;exact ha w)];exact z
  there:=I.base.there
  tups:=λb ys q=>by
   have z:=I.base.tups b ys q;rw[aD (by intro e;have w:=z;rw[e] at w;exact hn ys w)];exact z
  frzs:=λb o' u' q=>by
   have z:=I.base.frzs b o' u' q;rw[aD (by intro e;have w:=q;rw[e] at w;exact hf o' u' w)];exact z
  tbls:=λb ps q=>by
   obtain⟨m,z⟩:=I.base.tbls b ps q
   exact⟨m,by rw[aD (by intro e;have w:=z;rw[e] at w;exact hb _ w)];exact z⟩}
 loc:=I.loc
 cell:=I.cell
 free:=by rw[aD (by intro e;have w:=I.free;rw[e] at w;exact ha w)];exact I.free
 freeC:=λx c q=>by rw[aD (by intro e;have w:=I.freeC x c q;rw[e] at w;exact ha w)];exact I.freeC x c q
 pin:=λp hp=>by
  obtain⟨h1,h2,h3,h4,h5⟩:=I.pin p hp;exact⟨h1,by rw[aD (by intro e;have w:=h2;rw[e] at w;exact ha w)];exact h2,h3,h4,h5⟩
 hok:=λb u' q=>by
  by_cases e:b=a
  ·subst e;rw[bx] at q;cases q;exact new
  ·rw[aD e] at q
   exact(I.hok b u' q).stay (λ_ _ _ z=>z) (λc z=>by rw[aD (by intro e;have w:=z;rw[e] at w;exact ho b w)];exact z) λc ys z=>by rw[aD (by intro e;have w:=z;rw[e] at w;exact hn ys w)];exact z
 len:=I.len
end
def Yw      (hd:(d == sysModules)=false)(j:s.heap.get? d=some o)(hx:o.ExactDict)(f:o.data=.dict es ep)
  (t:Q (.ref s.heap.objs.size) {s with heap:=s.heap.push {cls:=.type "dict_keyiterator",data:=.fields #[.ref d,.int 0 0,.int es.size 0,.int ep 0]}}):
  wpAny (model prog w) A (pyIter (.ref d)) Q E s:=by
 have m:s.TypeIs (.ref d) _:=⟨o,j,hx.1⟩;refine wpAny_pyIter_slot m PySem.F.slot_dict_iter (wpAny_call_entry PySem.F.slot_dict_iter m PySem.F.entry_dict_iter ?_);refine za ?_;refine za (wpAny_notOrdered_dict m ?_);refine zb ?_;show wpAny _ _ (Builtin.Dict.showsAll d >>= _) _ _ s;unfold Builtin.Dict.showsAll;rw[if_neg (by rw[hd];exact zA)];refine za (zb ?_);refine za (wpAny_dictEntries j f ?_);refine za (wpAny_dictEpoch j f ?_);refine za (wpAny_newObj_type (zb ⟨_,rfl,"dict_keyiterator",_,⟨_,zy _ rfl,rfl⟩,PySem.F.slot_dict_keyiterator_next.lookup,?_⟩));simpa
def Yx  {n:Nat}  {es:Array DictEntry}  (f:s.heap.IsKeyIter it d i n ep)(j:s.heap.get? d=some G)(m:G.data=.dict es ep)(hsz:es.size=n)(u:i<n)
  (C:∀h',h'.IsKeyIter it d (i+1) n ep->Heap.SameBut it s.heap h'->Q (some (es[i]'(by omega)).key) {s with heap:=h'}):
  wpAny (model prog w) A (pyNext (.ref it)) Q E s:=by
 obtain⟨o,t,y,hd⟩:=id f;unfold pyNext
 refine za (wpAny_attempt (wpAny_callSpecial?_slot f.typeIs PySem.F.slot_dict_keyiterator_next
  (wpAny_call_entry PySem.F.slot_dict_keyiterator_next f.typeIs PySem.F.entry_dict_keyiterator_next ?_)))
 refine za (zb ?_);refine za ?_;refine za ?_
 first | refine za (wpAny_typeNameOfWhole_keyiter f.typeIs (zb ?_)) | refine za
 refine za (wpAny_fieldsOf t hd ?_)
 have x:Builtin.Dict_items.ownsTuple "dict_keyiterator" = false:=by decide
 refine za (zb ?_);refine za (wpAny_dictEntries j m ?_);rw[if_neg (by rw[hsz];simp)];refine za (zb ?_);refine za (wpAny_dictEpoch j m ?_);rw[if_neg (by simp)];refine zb ?_
 have hlt':i<es.size:=by rw[hsz];exact u
 simp only[if_false,Int.toNat_natCast,Array.getElem?_eq_getElem hlt'];refine za ?_
 first | refine za (wpAny_typeNameOfWhole_keyiter f.typeIs (zb ?_)) | refine za
 refine za (wpAny_isOneOf_keyiter f.typeIs ?_);show wpAny _ _ (setField (.ref it) 1 (rawInt ((i:Int)+1)) >>= _) _ _ s;refine za (wpAny_setField t hd (by simp) ?_);have hit':(s.heap.update it (Obj.mapFields (·.setIfInBounds 1 (rawInt ((i:Int)+1))))).IsKeyIter it d (i+1) n ep :=
  ⟨_,Heap.get?_update_self _ t (Obj.isFreed_of_fields (Obj.data_mapFields hd _)),(Obj.cls_mapFields ..).trans y,by rw[Obj.data_mapFields hd];simp[rawInt]⟩
 refine za (zS ?_);refine za (wpAny_isOneOf_keyiter hit'.typeIs ?_);exact zb (zb ⟨_,rfl,zb (C _ hit' (Heap.SameBut.update ..))⟩)
def Yy      (C:A.handled=none)(f:s.heap.IsKeyIter it d i n ep)(j:s.heap.get? d=some J)(t:J.data=.dict es ep)(hsz:es.size=n)(u:n<=i)
  (G:∀h',Heap.ExtBut it s.heap h'->Q none {s with heap:=h'}):wpAny (model prog w) A (pyNext (.ref it)) Q E s:=by
 obtain⟨o,x,I,hd⟩:=id f;unfold pyNext
 refine za (wpAny_attempt (wpAny_callSpecial?_slot f.typeIs PySem.F.slot_dict_keyiterator_next
  (wpAny_call_entry PySem.F.slot_dict_keyiterator_next f.typeIs PySem.F.entry_dict_keyiterator_next ?_)))
 refine za (zb ?_);refine za ?_;refine za ?_
 first | refine za (wpAny_typeNameOfWhole_keyiter f.typeIs (zb ?_)) | refine za
 refine za (wpAny_fieldsOf x hd ?_)
 have y:Builtin.Dict_items.ownsTuple "dict_keyiterator" = false:=by decide
 refine za (zb ?_);refine za (wpAny_dictEntries j t ?_);rw[if_neg (by rw[hsz];simp)];refine za (zb ?_);refine za (wpAny_dictEpoch j t ?_);rw[if_neg (by simp)];refine zb ?_
 have hge':es.size<=i:=by rw[hsz];exact u
 simp only[if_false,Int.toNat_natCast,Array.getElem?_eq_none hge'];refine za ?_
 first | refine za (wpAny_typeNameOfWhole_keyiter f.typeIs (zb ?_)) | refine za
 show wpAny _ _ (setField (.ref it) 0 .none >>= _) _ _ s;refine za (wpAny_setField x hd (by simp) ?_);refine za ?_;refine za (m:=firstArgMember _ _) (wpAny_of_eq (a:=Value.none) (by first | rfl | (rfl)) ?_);refine wpAny_newObj_type ?_ (by size_fits);simp only[raiseNew];refine za (wpAny_handled ?_);rw[(C)];refine za (zb (wpAny_throw ?_));refine za (wpAny_isInstance (T:="StopIteration") (b:=true) ⟨_,zy _ rfl,rfl⟩ isSubtype_stop ?_);exact zb (G _ (((Heap.SameBut.update ..).extBut.push _).push _))
def Gz{β:Type}{R:α->β->Prop}{l:List α}{m:List β}(h:Paired R l m):∀{i:Nat}{x:α}{y:β},l[i]?=some x->m[i]?=some y->R x y:=by
 induction h with
 |nil=>intro i x y h;cases h
 |cons a b ih =>
  intro i x y h1 h2
  cases i with
  |zero=>cases h1;cases h2;exact a
  |succ i=>exact ih h1 h2
section
variable {K:Frag}{mg:Str->Option Value}{O:au}{H F:Hp}{as:List Addr}
def Gr.tupF{b:Addr}{xs:List V}(hb:H b=some (.tup xs))(d:F b=none):Gr H F as H (upd F b (.tup xs)) as :=
 ⟨λa o e _ hd=>aD (λz=>by rw[z,hb] at e;cases e;cases hd),λa u e=>by rw[aD (bT e d)];exact e,⟨[],by simp,λ_ h=>nomatch h⟩,λ_ _ h _ _=>h,λ_ h=>h,λ_ _ _ h=>h⟩
def RlO.noT{b:Addr}{xs:List V}(r:RlO K mg O H F as)(hb:H b=some (.tup xs)):b∉as:=λj=>by
 obtain⟨n,f,e⟩:=List.mem_iff_getElem.mp j
 have m:n<O.length:=by rw[<-r.len];exact f
 have q:=r.ob n b O[n] (by rw[zt f,e]) (zt m)
 revert q
 cases O[n] with
 |ins c fs=>rintro⟨C,x,gs,_,h2,_⟩;rw[hb] at h2;cases h2
 |ml y=>rintro⟨xs,h1,_⟩;rw[hb] at h1;cases h1
 |dt d=>rintro⟨xs,h1,_⟩;rw[hb] at h1;cases h1
 |df d=>rintro⟨o,xs,h1,_⟩;rw[hb] at h1;cases h1
 |dk d=>rintro⟨xs,h1,_⟩;rw[hb] at h1;cases h1
 |kf d=>rintro⟨o,xs,h1,_⟩;rw[hb] at h1;cases h1
 |xc c fs=>rintro⟨C,t,u,_,h1,_⟩;rw[hb] at h1;cases h1
 |gone=>rintro⟨φ,h1⟩;rw[hb] at h1;cases h1
 |dn d=>rintro⟨xs,h1,_⟩;rw[hb] at h1;cases h1
 |nf d=>rintro⟨o,xs,h1,_⟩;rw[hb] at h1;cases h1
theorem tU{K:Frag}:∀ks:List Key,Rps K F as (ks.map kV) (ks.map sU)
 | []=>Rps.nil
 | .inl i::ks=>Rps.cons (show Rp K F as (.int i) (.int i) from rfl) (tU ks)
 | .inr x::ks=>Rps.cons (show Rp K F as (.str x) (.str x.cps.toList) from by
   show V.str x=V.str (S x.cps.toList)
   rw[show S x.cps.toList=x by cases x;simp[S]]) (tU ks)
end
section
variable {K:Frag}{mg:Str->Option Value}{md:List Md}{P:Pt}{ρ:aK}{σ:St}{O:au}{H F H' F':Hp}{as as':List Addr}
def gM.reH{m:Md}{v:V}{d:D}{a:Addr}{h:HO}(q:gM P K H F as m v d)(G:a∈as):gM P K (upd H a h) F as m v d:=by
 cases m with
 |v=>exact q
 |s =>
  rcases q with q | ⟨c,j,E,C,y,x,f,u,t⟩
  ·exact .inl q
  ·exact .inr ⟨c,j,E,C,y,by rw[aD (λz=>f (by rw[z];exact G))];exact x,f,u,t⟩
 |o =>
  rcases q with⟨h1,q⟩ | ⟨c,j,E,C,y,x,I,f,u,t⟩
  ·exact .inl ⟨h1,q⟩
  ·exact .inr ⟨c,j,E,C,y,by rw[aD (λz=>f (by rw[z];exact G))];exact x,I,f,u,t⟩
def SlO.reH{a:Addr}{h:HO}(s:SlO K md P ρ σ H F as)(f:a∈as):SlO K md P ρ σ (upd H a h) F as :=
 ⟨s.len,s.len',λc p z=>s.pd c p (by
  by_cases e:c=a
  ·rw[e,bx] at z;cases z
  ·rwa [aD e] at z),λi m d t j=>let ⟨v,q,r⟩:=s.sl i m d t j;⟨v,q,r.reH f⟩,s.inj,s.pin⟩
def SlO.obAt{i n:Nat}(s:SlO K md P ρ σ H F as)(e:ρ[i]?=some (some (.ob n))):∃a,as[n]?=some a:=by
 have f:i<md.length:=by rw[<-s.len'];exact(zu.mp e).1
 obtain⟨v,_,q⟩:=s.sl i _ _ (zt f) e
 have d:Rp K F as v (.ob n):=by
  revert q
  cases md[i] with
  |v=>exact λq=>q
  |s =>
   rintro(q | ⟨a,xs,ds,_,z,_⟩)
   ·exact q
   ·cases z
  |o =>
   rintro(⟨_,q⟩ | ⟨a,xs,ds,_,z,_⟩)
   ·exact q
   ·cases z
 obtain⟨a,_,j⟩:=Rp.unO d;exact⟨a,j⟩
end
def cH(d:List (Key×D))(k:Key):Option D:=(d.find? λp=>decide (p.1=k)).map (·.2)
def cX(f:List (Key×D))(k:Key)(d:D):List (Key×D):=
 if(f.any λp=>decide (p.1=k))=true then f.map (λp=>if p.1=k then(p.1,d) else p) else f++[(k,d)]
def DkR(K:Frag)(F:Hp)(f:List Addr)(xs:List (Key×V))(d:List (Key×D)):Prop:=xs.map (·.1)=d.map (·.1)/\Rps K F f (xs.map (·.2)) (d.map (·.2))
def DkR.len{K:Frag}   (h:DkR K F f xs d):xs.length=d.length:=by
 have:=congrArg List.length h.1
 simpa using this
def DkR.un{K:Frag}    (h:DkR K F as xs (p::kvs)):∃v r,xs=(p.1,v)::r/\Rp K F as v p.2/\DkR K F as r kvs:=by
 obtain⟨h1,h2⟩:=h
 cases xs with
 |nil=>cases h1
 |cons x r =>
  obtain⟨v,m,e,j,f⟩:=h2.un;cases e;rw[zg,zg] at h1;have d:=(List.cons.inj h1).1;refine⟨x.2,r,?_,j,(List.cons.inj h1).2,f⟩;rw[<-d]
theorem DkR.val{K:Frag} :∀{f:List (Key×D)}{xs:List (Key×V)},DkR K F as xs f->(cH f k=none/\dz xs k=none)\/∃d v,cH f k=some d/\dz xs k=some v/\Rp K F as v d
 | [],xs,h=>by
  have:=h.len
  cases xs with
  |nil=>exact .inl ⟨rfl,rfl⟩
  |cons=>cases this
 |p::f,xs,h=>by
  obtain⟨v,r,rfl,h1,h2⟩:=h.un
  by_cases e:p.1=k
  ·exact .inr ⟨p.2,v,by simp[cH,List.find?_cons,e],nC e,h1⟩
  ·rw[show cH (p::f) k=cH f k by simp[cH,List.find?_cons,e],nD (p:=(p.1,v)) e];exact DkR.val h2
theorem DkR.any{K:Frag} :∀{d:List (Key×D)}{xs:List (Key×V)},DkR K F as xs d->(xs.any λp=>decide (p.1=k))=d.any λp=>decide (p.1=k)
 | [],xs,h=>by
  have:=h.len
  cases xs with
  |nil=>rfl
  |cons=>cases this
 |p::d,xs,h=>by
  obtain⟨v,r,rfl,h1,h2⟩:=h.un;rw[List.any_cons,List.any_cons,DkR.any h2]
theorem DkR.repl{K:Frag}    (hv:Rp K F as v d):∀{f:List (Key×D)}{xs:List (Key×V)},DkR K F as xs f ->
  DkR K F as (xs.map λp=>if p.1=k then(p.1,v) else p) (f.map λp=>if p.1=k then(p.1,d) else p)
 | [],xs,h=>by
  have:=h.len
  cases xs with
  |nil=>exact⟨rfl,Rps.nil⟩
  |cons=>cases this
 |p::f,xs,h=>by
  obtain⟨u,r,rfl,h1,h2⟩:=h.un;obtain⟨m,j⟩:=DkR.repl (k:=k) hv h2
  by_cases e:p.1=k
  ·rw[zg,zg,if_pos e,if_pos e];exact⟨by rw[zg,zg,m],Rps.cons hv j⟩
  ·rw[zg,zg,if_neg e,if_neg e];exact⟨by rw[zg,zg,m],Rps.cons h1 j⟩
def DkR.put{K:Frag}   (h:DkR K F j xs f)(k:Key)   (hv:Rp K F j v d):DkR K F j (putK xs k v) (cX f k d):=by
 unfold putK cX;rw[h.any]
 split
 ·exact h.repl hv
 ·exact⟨by rw[zM,zM,h.1];rfl,by rw[zM,zM];exact Rps.snoc h.2 hv⟩
def RlO.dk{K:Frag}{n:Nat}   (r:RlO K mg O H F m)(d:m[n]?=some a)(f:O[n]?=some (.dk j)):∃xs,H a=some (.dK xs)/\DkR K F m xs j:=let ⟨xs,h1,h2,h3⟩:=r.ob n a _ d f;⟨xs,h1,h2,h3⟩
noncomputable def xB:M D:=λ_ O=>.ok (.ob O.length) (O++[.dk []])
def Yz :VE X md P (.Dict [] [] t) xB:=T5.imp λσ H Q q p f=>by
 obtain⟨ρ,O,F,j,d,m,r,s,e,k⟩:=q;cases e;refine k _ _ F _ (Gr.snoc f) ((r.lay f).snocO (r.unF f) (λz=>r.all z f) ⟨[],bx,rfl,Rps.nil⟩) (Rp.mkO ?_);rw[<-r.len,zL (zc _),Nat.sub_self];rfl
def lY(mo my f:M D):MS:=λρ O=>match f ρ O with
 | .ok d O1=>match mo ρ O1 with
  | .ok (.ob n) O2=>match my ρ O2 with
   | .ok y O3=>match keyOf y,O3[n]? with
    |some k,some (.dk kvs)=>if kvs.length<1000000 then .nx ρ (O3.set n (.dk (cX kvs k d))) else .no
    | _,_=>.no
   | _=>.no
  | _=>.no
 | _=>.no
def YB  (hr:aW kk X.A)    (ho:VE X md P o mo)(hi:VE X md P i my)(hv:VE X md P value mv)
  (hs:swapsWith value (some (.Subscript o i pos')) pos.line X.env=pure false:=by rfl):VS X md P R (.Assign [.Subscript o i pos'] value pos) (lY mo my mv):=
 (TX (wD hr) ho hi hv hs).imp λD σ H q=>by
  obtain⟨ρ,O,F,as,r,s,k⟩:=q;unfold lY at k;split at k
  ·rename_i d O1 e1;split at k
   ·rename_i n O2 e2;split at k
    ·rename_i y O3 e3;split at k
     ·rename_i W kvs e4 e5;split at k
      ·rename_i hz;refine⟨ρ,O,F,as,_,_,r,s,e1,λv H1 F1 J t r1 hv=>⟨ρ,O1,F1,J,_,_,r1,s.step t,e2,λx H2 F2 I m r2 hx=>⟨ρ,O2,F2,I,_,_,r2,s.step (t.trans m),e3,λu Z C as3 j U hu=>?_⟩⟩⟩;obtain⟨a,rfl,ha⟩:=Rp.unO hx;have f:=j.at_ n a ha;obtain⟨L,T,Q⟩:=U.dk f e5;have G :=(hu).key e4;subst G;have E:=(hv).gr (m.trans j)
       have hl:L.length<sizeLine:=by rw[Q.len];exact zK hz (by decide)
       have g4:Gr Z C _ (upd Z a (.dK (putK L W v))) C _:=qd (zJ f) T;have Y:=((t.trans m).trans j).trans g4;obtain⟨z1,z2⟩:=Q.put W E;exact⟨a,_,rfl,pQ.k T hl,k σ _ C _ Y.toS (U.mutG f ⟨_,bx,z1,z2⟩) (s.step Y)⟩
      ·exact False.elim k
     ·exact False.elim k
    ·exact False.elim k
   ·exact False.elim k
  ·exact False.elim k
def gw(mo my:M D):M D:=λρ O=>(mo ρ O).bind λx j=>match x with
 | .ob n=>(my ρ j).bind λy f=>match keyOf y,f[n]? with
  |some k,some (.dk kvs)=>match cH kvs k with
   |some d=>.ok d f
   |none=>.no
  | _,_=>.no
 | _=>.no
def YC  (Y:aW kk X.A)    (Z:VE X md P o mo)(hi:VE X md P i my)(hs:rY i:=by intro _ _;rfl):VE X md P (.Subscript o i pos) (gw mo my):=
 (TQ (wD Y) Z hi hs).imp λσ H Q q=>by
  obtain⟨ρ,O,F,as,d,O',r,s,e,k⟩:=q;obtain⟨x,O1,e1,e⟩:=Res.bind_ok e
  cases x with
  |ob n =>
   obtain⟨y,O2,e2,e⟩:=Res.bind_ok e;split at e
   ·rename_i ks kvs e3 e4;split at e
    ·rename_i d' f;cases e;refine⟨ρ,_,F,as,_,_,r,s,e1,λx H1 F1 t I U hx=>⟨ρ,_,F1,t,_,_,U,s.step I,e2,λu H2 F2 as2 G E W=>?_⟩⟩;obtain⟨a,rfl,ha⟩:=Rp.unO hx;obtain⟨xs,R,L⟩:=E.dk (G.at_ n a ha) e4;have m :=(W).key e3;subst m
     rcases L.val with⟨j,C⟩ | ⟨d2,T,j,C,J⟩
     ·rw[j] at f;cases f
     ·rw[j] at f;cases f;refine⟨a,T,rfl,?_,k _ H2 F2 _ (I.trans G) E J⟩;rw[<-C];exact iY.k R
    ·cases e
   ·cases e
  | _=>cases e
def tV(d:Bool)(my mo:M D):M D:=λρ O=>(my ρ O).bind λy j=>(mo ρ j).bind λx f=>match x with
 | .ob n=>match keyOf y,f[n]? with
  |some k,some (.dk kvs)=>.ok (.bl (d != (cH kvs k).isSome)) f
  | _,_=>.no
 | _=>.no
def YD{X:Cx}     (q:tM X.K X.mg md P (rO X.K) (tV true my mo) σ H Q):Ec (tM X.K X.mg md P (rV X.K) my) (tM X.K X.mg md P (rV X.K) mo) σ H Q:=by
 obtain⟨ρ,O,F,as,d,O',r,s,e,k⟩:=q;obtain⟨y,O1,e1,e⟩:=Res.bind_ok e;obtain⟨x,O2,e2,e⟩:=Res.bind_ok e;split at e
 ·split at e
  ·rename_i ks kvs Z Y;cases e;refine⟨ρ,_,F,as,_,_,r,s,e1,λu H1 F1 G C T U=>⟨ρ,_,F1,G,_,_,T,s.step C,e2,λx I J as2 t m hx=>?_⟩⟩;obtain⟨a,rfl,W⟩:=Rp.unO hx;obtain⟨xs,R,L⟩:=m.dk W Y;have E :=((U).gr t).key Z;subst E;refine⟨a,_,rfl,iY.k R,?_⟩
   rcases L.val with⟨j,f⟩ | ⟨d',v',j,f,z3⟩
   ·rw[j] at k;rw[f];exact k _ I J _ (C.trans t) m (.inl ⟨rfl,Rp.bl⟩)
   ·rw[j] at k;rw[f];exact k _ I J _ (C.trans t) m (.inl ⟨rfl,Rp.bl⟩)
  ·cases e
 ·cases e
def YF  (d:aW t X.A)    (m:VE X md P i my)(f:VE X md P o mo)(j:behindInMarks .NotIn o=false:=by with_unfolding_all rfl):TsE X md P (.Compare i [.NotIn] [o] pos) (az (tV true my mo)):=
 (vQ (TV (wD d) m f) j).imp λσ H Q h=>YD (pX h)
theorem Rps.reverse{K:Frag}  :∀{ds:List D}{xs:List V},Rps K F as xs ds->Rps K F as xs.reverse ds.reverse
 | [],xs,h=>by rw[h.un0];exact Rps.nil
 |d::ds,xs,h=>by
  obtain⟨x,r,rfl,h1,h2⟩:=h.un;rw[List.reverse_cons,List.reverse_cons];exact Rps.snoc (Rps.reverse h2) h1
noncomputable def tW(i:Nat):MS:=λρ O=>match ρ[i]? with
 |some (some (.lst ds))=>.nx (ρ.set i (some (.lst ds.reverse))) O
 | _=>.no
def YG{X:Cx}{P:Pt}{R:RR}(i:Nat){x:Str}{p apos d m:Pos}(C:md[i]?=some .o:=by rfl)(hN:X.N[i]?=some x:=by rfl)(I:Vis X.env.scope x:=by first | exact Or.inl rfl | exact Or.inr (Or.inl rfl) | exact Or.inr (Or.inr rfl))
  (hd:(x == ("__debug__":Str))=false:=by decide) (u:(x == ("__classdict__":Str))=false:=by decide)
  (j:attributeBase (.Name x p) "reverse" X.env (eval (.Name x p) X.env)=eval (.Name x p) X.env:=by rfl) (f:(apos.endLine == d.line)=true:=by rfl)
  (t:swapsWith (.Call (.Attribute (.Name x p) "reverse" apos) [] [] d) none m.line X.env=pure false:=by rfl):
  VS X md P R (.Expr (.Call (.Attribute (.Name x p) "reverse" apos) [] [] d) m) (tW i):=
 (m9 (Th PySem.F.plainAttrs_list PySem.F.slot_list_reverse PySem.F.type_list_reverse Tn (jY (i:=i) hN I hd u) j f) t).imp λD σ H q=>by
  obtain⟨ρ,O,F,L,r,s,k⟩:=q;unfold tW at k;split at k
  ·rename_i T G;obtain⟨a,y,h1,h2,h3,h4,E,J⟩:=s.own C G
   have Q:H a≠none:=by rw[h2];exact λz=>nomatch z
   exact⟨_,h1,.inl ⟨rfl,y,.inl (.inl h2)⟩,a,y,rfl,rfl,h2,k σ _ F L (xq h2 E) (r.mut h3 h4) (s.mut C G h1 h3 h4 E (Rps.reverse J))⟩
  ·exact False.elim k
def YH(te ts:TE)(K:Frag):TE:=λσ H Q=>te σ H λx j=>ts σ j λy d=>y=.int (-1)/\∃a f,x=.ref a/\SqL K d a f/\∀p,d p=none->Q (.ref p) (upd d p (.lst f.reverse))
def YJ{st:Expr}   (G:PE X e te)(f:PE X st ts)(j:∀v C,∃ops,subscripted (.Slice none none (some st) L) false v C=operate ops (getItem v C)):PE X (.Subscript e (.Slice none none (some st) L) O) (YH te ts X.K):=by
 intro pins s σ H Q I h;refine Subscript_ (thn (G pins s σ H _ I h) λv s1 ⟨x,H1,I1,r1,q1⟩=>wpAny_Slice ?_);rw[evalPart_none];refine zb (zb ?_);rw[evalPart_some]
 refine thn (f pins s1 σ H1 _ I1 q1) λu s2 ⟨y,H2,I2,ry,hy,a,xs,hxa,hx,q⟩=>?_
 subst hy;subst hxa;obtain⟨t,rfl⟩:=ry;cases r1
 have d:Inv X pins σ H2 {s2 with heap:=s2.heap.push {cls:=.type "slice",data:=.fields #[.none,.none,.int (-1) t]}}:=I2.kept (t':=s2.toks) λb ob q=>zo _ q
 obtain⟨J,r,E,F⟩:=d.list hx;have hlen:=r.length;show wpAny (model X.prog X.w) X.A (subscriptTail e (.Slice none none (some st) L) (.ref a) (.ref s2.heap.objs.size)) (EP X pins σ Q) X.xe {s2 with heap:=s2.heap.push {cls:=.type "slice",data:=.fields #[.none,.none,.int (-1) t]}};obtain⟨ops,m⟩:=j (.ref a) (.ref s2.heap.objs.size);refine tail_any (ops:=ops) E.isList.typeIs slot_list_getitem.lookup ?_ m;refine wpAny_getItem_list_slice E.isList (Heap.IsSliceOf.new ..) .none .none (.int (-1) t) (by decide) ?_ (by rw[zI]<;>omega);rw[PySem.W.krv_pick];refine⟨.ref _,_,d.laid (t':=s2.toks) (o:=.lst xs.reverse) (λb ob q=>zo _ q) (zc _) ?_,rfl,q _ (d.hok.fresh (zc _))⟩
 exact⟨by rw[List.length_reverse];exact F,_,0,r.reverse,zy _ rfl⟩
def GC(m ms:M D):M D:=λρ O=>(m ρ O).bind λd j=>(ms ρ j).bind λy f=>match aV f d,y with
 | .lst ds,.int (-1)=>.ok (.lst ds.reverse) f
 | _,_=>.no
def YK{st:Expr}   (he:SE X md P e m)(G:VE X md P st ms)(I:∀v t,∃ops,subscripted (.Slice none none (some st) p2) false v t=operate ops (getItem v t):=by intro v t;exact⟨_,by with_unfolding_all rfl⟩):OE X md P (.Subscript e (.Slice none none (some st) p2) pos) (GC m ms):=
 (YJ he G I).imp λσ H Q q=>by
  obtain⟨ρ,O,F,as,d,O',r,s,e,k⟩:=q;obtain⟨x,O1,e1,e⟩:=Res.bind_ok e;obtain⟨y,O2,e2,e⟩:=Res.bind_ok e;split at e
  ·rename_i ds e3;cases e;refine⟨ρ,_,F,as,_,_,r,s,e1,λv H1 F1 J E U Y=>⟨ρ,_,F1,J,_,_,U,s.step E,e2,λu H2 F2 f C j Z=>⟨(show Rp X.K F2 f u (.int (-1)) from Z).unI,?_⟩⟩⟩;have L:=Sv.lk (Y.gr C) j;rw[e3] at L;obtain⟨p,R,rfl,h1,h2⟩:=L.list j.fh;exact⟨p,R,rfl,h1.sq,λq hq=>km j (λT H' F' g' W o=>k T H' F' f (E.trans (C.trans g')) W (fD _ _ _ _ _ _ _ (λa ha=>(E.trans C).dm a ha) o)) hq (Rps.reverse h2)⟩
  ·cases e
def iB:List Int->Option Int
 | []=>none
 |n::ns=>match iB ns with
  |some m=>some (if m<n then n else m)
  |none=>some n
theorem xC:∀{ns:List Int}{M:Int},M∈ns->(∀a,a∈ns->a<=M)->iB ns=some M
 | [],M,h,_=>nomatch h
 |n::ns,M,h,hM=>by
  unfold iB
  rcases zk.mp h with rfl | h
  ·cases e:iB ns with
   |none=>rfl
   |some m =>
    dsimp only
    have:∀{ns:List Int}{m:Int},iB ns=some m->m∈ns:=by
     intro ns
     induction ns with
     |nil=>intro m h;cases h
     |cons n ns ih =>
      intro m h;unfold iB at h
      cases e:iB ns with
      |none=>rw[e] at h;cases h;exact zd
      |some k =>
       rw[e] at h;dsimp only at h;cases h
       split
       ·exact zd
       ·exact zm _ (ih e)
    have j:=hM m (zm _ (this e))
    by_cases d:m<M
    ·rw[if_pos d]
    ·rw[if_neg d];exact congrArg some (by omega)
  ·rw[xC h λa f=>hM a (zm _ f)];dsimp only
   have:=hM n zd
   by_cases d:M<n
   ·omega
   ·rw[if_neg d]
def lZ:List D->Option D
 | [.lst ds]=>match d9 ds with
  |some ns=>(iB ns).map D.int
  |none=>none
 | _=>none
def YL(W:X.calm=true):cZ X (.builtin "max") (λxs H Q=>∃(a:Addr) (ns:List Int) (M:Int),xs=[.ref a]/\SqL X.K H a (ns.map V.int)/\iB ns=some M/\Q (.int M) H):=by
 intro pins s σ H xs Y Q I r h;obtain⟨a,ns,M,rfl,x,J,q⟩:=h;obtain⟨u,rfl,O⟩:=vals1 r;cases O;obtain⟨f,L,p,Z⟩:=I.list x;have C:=intsAre_of L;have G:=p.isList;obtain⟨xs,m⟩:=C.allInts.items;have R:=C.numsOf
 have F:0<ns.length:=by
  cases ns with
  |nil=>cases J
  |cons n ns=>exact Nat.succ_pos _
 have E:0<xs.size:=by
  have h1:f.toArray.size=xs.size:=by rw[m];simp[intItems]
  rw[<-h1,zI,C.length];exact F
 rw[m] at G
 refine max_intList (I.ok.hd W) G E λv h' tk P T=>?_
 obtain⟨t,rfl⟩:=intItems_at P;have y:numsOf f=numsOf f.toArray.toList:=rfl;rw[m,nums_intItems] at y;rw[R] at y;obtain⟨h1,h2⟩:=argBest_gt (numAt xs) (xs.size - 1)
 have d:=xC (ns:=ns) (M:=numAt xs (argBest (λi j=>decide (numAt xs i>numAt xs j)) (xs.size - 1))) (by
  rw[y,numAt_eq]
  exact getD_mem (by rw[zf,Array.length_toList];omega)) (λa x=>by
  rw[y] at x;obtain⟨j,U,rfl⟩:=mem_getD x;rw[zf,Array.length_toList] at U;rw[<-numAt_eq]
  exact h2 j (by omega))
 rw[J] at d
 have:=zE d
 rw[<-this];exact⟨.int M,H,I.kept (t':=tk) T,⟨t,rfl⟩,q⟩
def YM(x:X.calm=true):kO X (.builtin "max") lZ:=by
 intro pins s σ H j m Q I t h;obtain⟨O,F,E,C,d,r,f,e,k⟩:=h;unfold lZ at e;split at e
 ·rename_i y;obtain⟨v,rfl,u⟩:=f.one;obtain⟨a,j,rfl,h1,h2⟩:=u.list r.fh
  cases hi:d9 y with
  |none=>rw[hi] at e;cases e
  |some ns =>
   rw[hi] at e;dsimp only at e
   cases hm:iB ns with
   |none=>rw[hm] at e;cases e
   |some M =>
    rw[hm] at e;cases e;have hx:=h2.ints hi;exact YL x pins s σ H _ m Q I t ⟨a,ns,M,rfl,by rw[<-hx];exact h1.sq,hm,bL r k rfl Rp.int⟩
 ·cases e
end L2
namespace L2
open PySem PySem.Spec PyProof.Rows PySem.W PySem.Calls
def eO(ss:List Str)(x:Str):List Str:=if x∈ss then ss else ss++[x]
def mj(es:Array (Int×Value)):List Str:=es.toList.map λe=>strOf e.2
def cY(prog:Program)(w:World)(h:Heap)(a:Addr)(ss:List Str)(o:Obj)(es:Array (Int×Value))(ep:Nat)(t:SetTable):Prop :=
 h.get? a=some o/\o.ExactSet/\o.data=.set es ep t/\ElemsOf (PySem.strKind prog w) es.toList/\(mj es).Perm ss/\es.size<scanBound/\t.fits es.size=true/\(es.size=0\/t.plain=false)/\t.led = !w.params.followText "set-order"
def cL(prog:Program)(w:World)(h:Heap)(a:Addr)(ss:List Str):Prop:=∃o d f t,cY prog w h a ss o d f t
section
variable {prog:Program}{w:World}{A:Around}{E:Value->Shared->Prop}{s:Shared}{a:Addr}{ss:List Str}
def cL.at{h h':Heap}(x:cL prog w h a ss)(k:∀o,h.get? a=some o->h'.get? a=some o):cL prog w h' a ss :=
 let ⟨o,es,ep,t,h1,r⟩:=x;⟨o,es,ep,t,k o h1,r⟩
def cL.len{h:Heap}(x:cL prog w h a ss):ss.length<scanBound:=by
 obtain⟨o,j,m,t,h1,h2,h3,h4,f,d,_⟩:=x;rw[<-f.length_eq];unfold mj;rw[zf];exact d
def YQ(t:SetTable)(es:Array (Int×Value))(n:Nat)(h:t.plain=false):(relayAll t es n).2.1.plain=false:=by
 unfold relayAll
 split
 ·rename_i d order e
  dsimp
  split
  ·unfold SetTable.relaid SetTable.laid at e
   cases q:SetTable.layClean _ _ with
   |none=>rw[q] at e;cases e
   |some  =>
    rw[q] at e;cases e;exact h
  ·rfl
 ·rfl
def YS(t:SetTable)(es:Array (Int×Value))(n:Nat):(relayAll t es n).2.1.led=t.led:=by
 unfold relayAll
 split
 ·rename_i d order e
  dsimp
  split
  ·unfold SetTable.relaid SetTable.laid at e
   cases q:SetTable.layClean _ _ with
   |none=>rw[q] at e;cases e
   |some  =>
    rw[q] at e;cases e;rfl
  ·rfl
 ·rfl
def YT(t:SetTable)(n:Nat):(t.orStandIn n).led=t.led:=by
 unfold SetTable.orStandIn
 split<;>rfl
def YW(t:SetTable)(es:Array (Int×Value))(h:Int)(x:Value):(layNew t es h x).2.1.led=t.led:=by
 unfold layNew
 split
 ·exact YT _ _
 ·rfl
def GD{h:Heap}     (y:h.get? a=some o)(j:o.ExactSet)(hd:o.data=.set es ep t)
   (m:ElemsOf (PySem.strKind prog w) F.toList) (x:(mj F).Perm ss) (hb:F.size<scanBound) (C:t'.fits F.size=true) (f:t'.plain=false) (d:t'.led = !w.params.followText "set-order"):
  (h.update a (Obj.putSet F t')).get? a=some {o with data:=.set F (ep+1) t'}/\cL prog w (h.update a (Obj.putSet F t')) a ss:=by
 have u :=by
  have:=Heap.get?_update_self (Obj.putSet F t') y (by rw[putSet_of _ t' hd];rfl)
  rw[putSet_of _ t' hd] at this;exact this
 exact⟨u,_,F,ep+1,t',u,j,rfl,m,x,hb,C,.inr f,d⟩
def GF{g:Bool->Sem Unit}(hg:∀(b:Bool) (d:Shared) (Z:Unit->Shared->Prop),Z () d->wpAny (model prog w) A (g b) Z E d)
    (Y:s.heap.get? a=some o) (J:o.ExactSet) (hd:o.data=.set es ep t)
   (m:ElemsOf (PySem.strKind prog w) es1.toList) (C:(mj es1).Perm ss) (u:es1.size<scanBound) (U:t2.fits es1.size=true) (y:t2.plain=false) (j:t2.led = !w.params.followText "set-order")
  (h:∀h',Heap.SameBut a s.heap h'->cL prog w h' a ss->R (some true) {s with heap:=h'}):
  wpAny (model prog w) A (do
    storeSet a es1 t2
    if(!wasDummy&&t2.tooFull)=true then do
      g (relayAll t2 es1 (SetTable.grown es1.size)).2.2
      storeSet a (relayAll t2 es1 (SetTable.grown es1.size)).1 (relayAll t2 es1 (SetTable.grown es1.size)).2.1
      pure (some true)
     else pure (some true)) R E s:=by
 refine za (wpAny_storeSet_of Y hd ?_ (fits_of_scanBound u));obtain⟨F,X⟩:=GD Y J hd m C u U y j;have f:=Heap.SameBut.update s.heap a (Obj.putSet es1 t2)
 split
 ·have Q:=relayAll_perm t2 es1 (SetTable.grown es1.size);have I:=relayAll_fits t2 es1 (SetTable.grown es1.size);have x:=YQ t2 es1 (SetTable.grown es1.size) y;have G:=YS t2 es1 (SetTable.grown es1.size)
  generalize  relayAll t2 _ _=Rl at Q I x G ⊢
  obtain⟨O⟩:=Rl;have P :=m.perm Q
  have T:O.size=es1.size:=by rw[<-Array.length_toList,Q.length_eq,Array.length_toList]
  have L:O.size<scanBound:=by rw[T];exact u
  refine za (hg _ _ _ ?_);refine za (wpAny_storeSet_of F rfl ?_ (fits_of_scanBound L));obtain⟨_,W⟩:=GD F J rfl P ((Q.map _).trans C) L I x (G.trans j);exact zb (h _ (f.trans (Heap.SameBut.update _ a _)) W)
 ·exact zb (h _ f X)
def YX    (hS:cL prog w s.heap a ss)(U:ss.length+1<scanBound)
  (h:∀h' b,Heap.SameBut a s.heap h'->cL prog w h' a (eO ss x)->Q b {s with heap:=h'}):
  wpAny (model prog w) A (setAddHashed a (.str x tk) ((PySem.strKind prog w).hash x)) Q E s:=by
 obtain⟨o,F,ep,t,Y,R,hd,u,X,hb,hf,hpl,C⟩:=hS
 have I:(PySem.strKind prog w).is x (.str x tk)=true:=by
  show Value.isStrOf x (.str x tk)=true;simp[Value.isStrOf]
 have hlen:F.size=ss.length:=by rw[<-X.length_eq];unfold mj;rw[zf,Array.length_toList]
 have hb1:F.size+1<scanBound:=by rw[hlen];exact U
 have hsc:(Value.str x tk).scannable=true:=rfl
 have key:∀e∈F.toList,∀y,(PySem.strKind prog w).is y e.2=true↔strOf e.2=y:=λe he y=>by
  obtain⟨⟨k,hk,_⟩,_⟩:=u e he;obtain⟨t',ht⟩:=Value.isStrOf_shape hk;rw[ht];show Value.isStrOf y (.str k t')=true↔k=y;simp[Value.isStrOf]
 refine zS (za (wpAny_setState_of Y hd hf ?_));dsimp only;rw[byScan_of hsc hb u];refine za ?_;refine za (zW ?_);refine za (wpAny_setScan_of I Y hd hf u ?_)
 cases hr:List.findIdx? _ F.toList with
 |some j =>
  obtain⟨hj,hpj,_⟩:=List.findIdx?_eq_some_iff_getElem.mp hr;have hx:x∈ss:=X.mem_iff.mp (zz.mpr ⟨F.toList[j],ja hj,(key _ (ja hj) x).mp hpj⟩);refine zb (zb ?_)
  have e:s = {s with heap:=s.heap}:=by cases s;rfl
  rw[e];exact h s.heap _ (Heap.SameBut.refl a s.heap) ⟨o,F,ep,t,Y,R,hd,u,by rw[eO,if_pos hx];exact X,hb,hf,hpl,C⟩
 |none =>
  have hx:x∉ss:=λhx=>by
   obtain⟨e,he,q⟩:=zz.mp (X.mem_iff.mpr hx)
   have:=List.findIdx?_eq_none_iff.mp hr e he
   rw[(key e he x).mpr q] at this;exact Bool.noConfusion this
  have hgw:∀(b:Bool) {f:Shared}{Z},Z () f->wpAny (model prog w) A (match b with | true=>rule "set.scan.the-table-gave-way" | false=>pure ()) Z E f :=
   λb f Z G=>by cases b<;>first | exact zb G | exact zW G
  have d:=layNew_perm t F ((PySem.strKind prog w).hash x) (.str x tk);have m:=layNew_fits t F ((PySem.strKind prog w).hash x) (.str x tk);have P:=YW t F ((PySem.strKind prog w).hash x) (.str x tk)
  generalize hL:layNew t F _ (.str x tk)=L at d m P ⊢
  obtain⟨es1,t1,W,gave⟩:=L;rw[Array.toList_push] at d;have J :=(u.push I hsc).perm d
  have hp1:(mj es1).Perm (eO ss x):=by
   rw[eO,if_neg hx];refine(d.map _).trans ?_;rw[zM];exact X.append_right _
  have hb1':es1.size<scanBound:=by rw[<-Array.length_toList,d.length_eq,ze];simpa using hb1
  refine za (hgw _ ?_)
  split
  ·refine za ?_;refine zb ?_;refine GF ?_ Y R hd J hp1 hb1' (SetTable.fits_plain_off m) rfl (P.trans C) ?_
   ·intro b f Z G;cases b<;>first | exact zb G | exact zW G
   ·intro h' O T;dsimp only;exact zb (h h' _ O T)
  ·rename_i hnp;refine za (zb ?_);refine GF ?_ Y R hd J hp1 hb1' m (by simpa using hnp) (P.trans C) ?_
   ·intro b f Z G;cases b<;>first | exact zb G | exact zW G
   ·intro h' O T;dsimp only;exact zb (h h' _ O T)
def isS(x:Str)(t:Tok):(PySem.strKind prog w).is x (.str x t)=true:=by
 show Value.isStrOf x (.str x t)=true;simp[Value.isStrOf]
def map_getD(ns:List Str):(List.range' 0 ns.length).map (λi=>ns.getD i ⟨#[]⟩)=ns:=by
 apply List.ext_getElem
 ·simp
 ·intro i h1 h2;simp[h2]
def YZ{R:Result->Shared->Prop}{I:Addr}{fp m:List Addr}{G:Array GenState->Array GenState->Prop}{n:Nat}{P:Nat->Value->Prop}{St:Nat->Shared->Prop}(W:WalksS prog w A.in1 I fp m G n P St)(S:Addr)(J:S∉fp)
  (val:Nat->Str) (L:∀i v,P i v->∃t,v=.str (val i) t) (hb:n+1<scanBound):
  ∀(k i:Nat) (s:Shared) (ss:List Str),n - i=k->i<=n->St i s->ss.length<=i->cL prog w s.heap S ss ->
   (∀d,Moved (S::m) G s d->cL prog w d.heap S (((List.range' i (n - i)).map val).foldl eO ss)->R (.ok (.ret .none)) d) ->
   codeAny (model prog w) A (.builtin "set.update.loop" ⟨[.ref S,.ref I],[]⟩) R s:=by
 have C:S∉m:=λh=>J (W.sub _ h)
 have f:∀b∈m,b∈S::m:=λb hb=>zm _ hb
 intro k
 induction k with
 |zero =>
  intro i s ss hk hi j Z U X
  have hin:i=n:=by omega
  subst hin;refine jc PyProof.Rows.F.entry_set_update_loop ?_;rw[Around.under_plainId PyProof.Rows.F.plain_set_update_loop _];show wpAny _ A.in1 (pyNext (.ref I) >>= _) _ _ s;refine za (W.done s _ _ j λd u=>?_);show wpAny _ A.in1 (ret Value.none) _ _ d;refine zb (X d (u.mono f) ?_);rw[Nat.sub_self]
  exact U.at λo e=>u.heap S _ C e
 |succ k ih =>
  intro i s ss hk hi j Z U X
  have y:i<n:=by omega
  refine jc PyProof.Rows.F.entry_set_update_loop ?_;rw[Around.under_plainId PyProof.Rows.F.plain_set_update_loop _];show wpAny _ A.in1 (pyNext (.ref I) >>= _) _ _ s;refine za (W.item i s _ _ y j λv d hP O u=>?_);obtain⟨t,rfl⟩:=L i v hP
  have hS':cL prog w d.heap S ss:=U.at λo e=>u.heap S _ C e
  show wpAny _ A.in1 (holding [Value.str (val i) t] (setAdd S (.str (val i) t)) >>= _) _ _ d;refine za (zS ?_);unfold setAdd;refine zS ?_;refine za ((PySem.strKind prog w).pyHash (k:=val i) (isS _ _) ?_)
  refine YX (s:={d with toks:=d.toks+1}) hS' (by omega) λh' b x hS2=>?_
  refine zb ⟨plainId_quiet PyProof.Rows.F.plain_set_update_loop _,ih (i+1) _ (eO ss (val i)) (by omega) y (W.frame _ d _ _ O (Nat.le_succ _) λb hb o e=>?_) ?_ hS2 λY Q T=>?_⟩
  ·rw[x.2 b (λh:b=S=>J (by rw[<-h];exact hb))];exact e
  ·unfold eO
   split
   ·omega
   ·rw[ze,zR];omega
  ·refine X Y (Moved.trans W.gtrans ((u.mono f).then_heap (Nat.le_succ _) λb o hb e=>?_) Q) ?_
   ·rw[x.2 b (λh:b=S=>hb (by rw[h];exact zd))];exact e
   ·rw[show n - i=(n - (i+1))+1 by omega,List.range'_succ,zg,List.foldl_cons];exact T
def Y0(x:Value)
  (h:Q₁ (.ref s.heap.objs.size) {s with heap:=s.heap.push {cls:=.type "set",dict:=none,data:=.set #[] 0 (.fresh 0 0 (!w.params.followText "set-order"))}}):
  codeAny (model prog w) A (.call (.builtin "set.__new__") ⟨[.type "set",x],[]⟩) (wants Q₁ E) s:=by
 refine codeAny_of_tree ?_;refine za (wpAny_of_eq (PySem.F.newCall_set_1 x) (zb ⟨plainId_quiet PySem.F.plain_set_new _,jc PySem.F.entry_set_new ?_⟩));have d:=sub_set_self
 wp_walk
 refine wpAny_askSetting (zb ?_);refine za (wpAny_alloc (zb ?_));exact zb h
def GJ{h:Heap}:cL prog w (h.push {cls:=.type "set",dict:=none,data:=.set #[] 0 (.fresh 0 0 (!w.params.followText "set-order"))}) h.objs.size []:=
 ⟨_,#[],0,_,zy _ rfl,⟨rfl,rfl,rfl⟩,rfl,λe d=>by simp at d,.nil,by decide,by rfl,.inl rfl,rfl⟩
set_option maxHeartbeats 8000000 in
def Y4
  (hh:A.handled=none) (hl:s.heap.IsList l items) (Y:StrsAre items.toList ns) (hb:items.size+1<scanBound)
  (h:∀(h':Heap) (tk:Nat),cL prog w h' s.heap.objs.size (ns.foldl eO []) ->
   (∀b o,s.heap.get? b=some o->h'.get? b=some o)->Q (.ref s.heap.objs.size) {s with heap:=h',toks:=tk}):
  wpAny (model prog w) A (call (.type "set") [.ref l]) Q E s:=by
 obtain⟨c,tl,hmro⟩:=PySem.F.called_set.mro;have hmade:=PySem.F.called_set.made;have hsub:=PySem.F.called_set.sub;refine wpAny_call (codeAny_of_tree ?_);show wpAny _ _ (callAny (.type "set") _) _ _ _;refine zb ⟨Code.quiet_builtin _ (by decide +kernel),jc PySem.F.entry_type_call ?_⟩;rw[Around.under_plain (weight_type_call_type "set" [.ref l] []) rfl];have h1:=PySem.F.called_set.notType;have h2:=PySem.F.called_set.canCreate;have hct:=PySem.F.typeCall_set_1 (.ref l)
 repeat (any_goals (first | assumption | wp_step))
 generalize hO:({cls:=.type "set",dict:=none,data:=.set #[] 0 (.fresh 0 0 (!w.params.followText "set-order"))}:Obj)=O0
 refine codeAny_mono (Y0 (.ref l) (E:=E) (Q₁:=λobj u=>obj=.ref s.heap.objs.size/\u = {s with heap:=s.heap.push O0}) (by rw[hO];exact⟨rfl,rfl⟩)) λr u X=>?_
 cases r with
 |error e=>exact X
 |ok fl =>
  cases fl with
  |ret obj =>
   obtain⟨rfl,rfl⟩:=X
   have hfr:cL prog w (s.heap.push O0) s.heap.objs.size []:=by rw[<-hO];exact GJ
   have hS:(s.heap.push O0).get? s.heap.objs.size=some O0:=by rw[<-hO];exact zy _ rfl
   have W:O0.cls=.type "set":=by rw[<-hO]
   have hdat:O0.data=.set #[] 0 (.fresh 0 0 (!w.params.followText "set-order")):=by rw[<-hO]
   have hT:Shared.TypeIs {s with heap:=s.heap.push O0} (.ref s.heap.objs.size) "set":=⟨_,hS,W⟩;have hli:=PySem.F.called_set.init.lookup;have hbi:=PySem.F.called_set.init.bind (.ref s.heap.objs.size)
   repeat (any_goals (first | assumption | wp_step))
   refine codeAny_mono (codeAny_call_builtin (R:=wants (λr m=>r=.none/\∃h' tk,m = {s with heap:=h',toks:=tk} /\
     cL prog w h' s.heap.objs.size (ns.foldl eO []) /\
     (∀b o,s.heap.get? b=some o->h'.get? b=some o)) E) PySem.F.called_set.init.plain PySem.F.entry_set_init (check_set_init_1 hT ?_)) λP m d=>?_
   ·subst hO;obtain⟨ol,G,O,nl,L⟩:=hl;obtain⟨ocls,C,odata,j⟩:=ol;simp only at O L;subst O;subst L;have hol':(s.heap.push {cls:=.type "set",dict:=none,data:=.set #[] 0 (.fresh 0 0 (!w.params.followText "set-order"))}).get? l=some {cls:=.type "list",dict:=C,data:=.seq items nl,slots:=j}:=zo _ G;have hsls:=PySem.F.sub_list_set;have hslf:=PySem.F.sub_list_frozenset
    have hne:(Value.type "list" == Value.type "dict")=false:=by decide
    have J:(s.heap.push {cls:=.type "set",dict:=none,data:=.set #[] 0 (.fresh 0 0 (!w.params.followText "set-order"))}).IsList l items:=⟨_,hol',rfl,nl,rfl⟩;unfold Builtin.«set.__init__» noKeywords Builtin.Frozenset.updateFrom
    generalize hPI:pyIter=PI
    wp_walk
    subst hPI;refine wpAny_pyIter_list J ?_;refine za (wpAny_runValue ?_);have I:l<s.heap.objs.size:=zl G
    have hh3:A.in1.in1.in1.handled=none:=by simp[hh]
    have U:l≠(s.heap.push {cls:=.type "set",dict:=none,data:=.set #[] 0 (.fresh 0 0 (!w.params.followText "set-order"))}).objs.size:=by
     rw[Heap.size_push];exact zp (jk I)
    have hSf:s.heap.objs.size∉[(s.heap.push {cls:=.type "set",dict:=none,data:=.set #[] 0 (.fresh 0 0 (!w.params.followText "set-order"))}).objs.size,l]:=by
     rw[Heap.size_push];simp only[zk,zh,List.not_mem_nil,or_false,not_or];exact⟨zp (jd _),Nat.ne_of_gt I⟩
    have hnl:ns.length=items.size:=by rw[<-Y.strs,zf,Array.length_toList]
    have T:∀(i:Nat) (v:Value),items[i]?=some v->∃t,v=.str ((λi=>ns.getD i ⟨#[]⟩) i) t:=λi v hv=>by
     have hv':items.toList[i]?=some v:=by rw[Array.getElem?_toList];exact hv
     obtain⟨x,t,rfl⟩:=Y.all v (zJ hv');refine⟨t,?_⟩
     have y:(items.toList.map strOf)[i]?=some x:=by rw[zC,hv'];rfl
     rw[Y.strs] at y;show Value.str x t=Value.str (ns.getD i ⟨#[]⟩) t;rw[jf,y];rfl
    refine YZ ((Walks.list hh3 _ l U items).toS) s.heap.objs.size
     hSf (λi=>ns.getD i ⟨#[]⟩) T hb (items.size - 0) 0 _ [] (by omega) (Nat.zero_le _)
     ⟨⟨_,zy _ rfl,rfl,rfl⟩,(J.push _)⟩ (zc _) (GJ.at λo e=>zo _ e) ?hR
    intro s' y f;rw[Nat.sub_zero,<-hnl] at f;rw[map_getD] at f;obtain⟨h',g',d',Z,os'⟩:=s';have eg:g'=s.gens:=y.gens;have ed:d'=s.drawn:=y.drawn;have eo:os'=s.os:=y.os;subst eg;subst ed;subst eo;show wpAny _ _ _ _ _ _;refine zb ?_;show wpAny _ _ (ret Value.none) _ _ _;refine zb ⟨rfl,h',Z,rfl,f,λb o e=>?_⟩;have hb':=zl e;have hb1:b≠s.heap.objs.size:=zp hb'
    have hb2:b≠(s.heap.push {cls:=.type "set",dict:=none,data:=.set #[] 0 (.fresh 0 0 (!w.params.followText "set-order"))}).objs.size:=by
     rw[Heap.size_push];exact zp (jk hb')
    exact y.heap b o (by simp only[zk,zh,List.not_mem_nil,or_false,not_or];exact⟨hb1,hb2⟩) (zo _ (zo _ e))
   ·cases P with
    |error e=>exact d
    |ok fl₂ =>
     cases fl₂ with
     |ret r =>
      obtain⟨rfl,h',tk,rfl,f,hk'⟩:=d
      repeat (any_goals (first | assumption | wp_step))
      exact h _ _ f hk'
     | _=>exact d.elim
  | _=>exact X.elim
end
def gQ:Slot "set_iterator" "__next__" "set_iterator.__next__" :=
 .of (owner:="set_iterator") (n:="__next__") (by kernel_rfl) (by decide ) (by decide ) (by decide )
  (by first | exact .inl (by decide ) | exact .inr) (by kernel_rfl)
def tX:entryFor table "set_iterator.__next__" = some Builtin.«set_iterator.__next__»:=entryFor_of_tree (by kernel_rfl)
def Y5(a:Value):argsOk "set_iterator.__next__" ⟨[a],[]⟩:=by kernel_rfl
def GK:Slot "set_iterator" "__iter__" "set_iterator.__iter__" :=
 .of (owner:="set_iterator") (n:="__iter__") (by kernel_rfl) (by decide ) (by decide ) (by decide )
  (by first | exact .inl (by decide ) | exact .inr) (by kernel_rfl)
def Y6:entryFor table "set_iterator.__iter__" = some Builtin.«dict_keyiterator.__iter__» :=
 entryFor_alias (id':="dict_keyiterator.__iter__") (by kernel_rfl) rfl (by decide +kernel) (by kernel_rfl)
def QCr(a:Value):argsOk "set_iterator.__iter__" ⟨[a],[]⟩:=by kernel_rfl
def Y7:entryFor table "set.__iter__" = some Builtin.«frozenset.__iter__» :=
 entryFor_alias (id':="frozenset.__iter__") (by kernel_rfl) rfl (by decide +kernel) (by kernel_rfl)
def ItS(h:Heap)(I a:Addr)(first:Value)(i n ep:Nat):Prop:=∃o,h.get? I=some o/\o.cls=.type "set_iterator"/\o.data=.fields #[first,.int i 0,.ref a,.int n 0,.int ep 0]
section
variable {prog:Program}{w:World}{A:Around}{E:Value->Shared->Prop}{s:Shared}{a:Addr}{ss:List Str}{o:Obj}{es:Array (Int×Value)}{ep:Nat}{t:SetTable}
def ItS.typeIs{I:Addr}{first:Value}{i n:Nat}(h:ItS s.heap I a first i n ep):s.TypeIs (.ref I) "set_iterator":=let ⟨o,h1,h2,_⟩:=h;⟨o,h1,h2⟩
def Y8{M:Model}    (f:n≠0)(h:∀i d,i<n->Q i {s with drawn:=d}):wpAny M A (choose src n) Q E s :=
 λΓ p j=>⟨f,h _ _ (Nat.mod_lt _ (Nat.pos_of_ne_zero f))⟩
theorem xD{α:Type}:∀(l:List α) (i:Nat) (h:i<l.length),(l[i]::l.eraseIdx i).Perm l
 |x::xs,0,_=>.refl _
 |x::xs,i+1,h=>(List.Perm.swap _ _ _).trans ((xD xs i _).cons x)
theorem GP{M:Model}{α:Type}:∀(n:Nat) (xs:List α) (s:Shared) (Q:List α->Shared->Prop),xs.length=n->(∀ys d,ys.Perm xs->Q ys {s with drawn:=d})->wpAny M A (drawOrder n xs) Q E s
 | 0,xs,s,Q,hl,h=>by
  rw[List.length_eq_zero_iff.mp hl] at h;exact zb (h [] s.drawn .nil)
 |n+1,[],s,Q,hl,h=>by cases hl
 |n+1,x::xs,s,Q,hl,h=>by
  unfold drawOrder;refine za (Y8 (by simp) λi d f=>?_);rw[zt f];refine za (GP n _ _ _ ?_ λys m j=>?_)
  ·rw[List.length_eraseIdx_of_lt f];omega
  ·exact zb (h _ m ((j.cons _).trans (xD _ _ f)))
def Y9  (x:cY prog w s.heap a ss o es ep t)
  (h1:(w.params.followText "set-order" = true\/es.size<=1)->Q (.ref s.heap.objs.size) {s with heap:=s.heap.push {cls:=.type "set_iterator",data:=.fields #[.int 0 0,.int 0 0,.ref a,.int es.size 0,.int ep 0]}})
  (h2:w.params.followText "set-order" = false->∀(ps:List Nat) d,ps.Perm (List.range es.size)->Q (.ref (s.heap.objs.size+1)) {s with drawn:=d,heap:=(s.heap.push {cls:=.type "tuple",data:=.seq (ps.map λi=>Value.int (i:Nat) 0).toArray}).push {cls:=.type "set_iterator",data:=.fields #[.ref s.heap.objs.size,.int 0 0,.ref a,.int es.size 0,.int ep 0]}}):
  wpAny (model prog w) A (pyIter (.ref a)) Q E s:=by
 obtain⟨u,G,hd,P,R,O,C,j,L⟩:=x;have J:s.TypeIs (.ref a) "set":=⟨o,u,G.1⟩;refine wpAny_pyIter_slot J PySem.F.slot_set_iter (wpAny_call_entry PySem.F.slot_set_iter J Y7 ?_);unfold Builtin.«frozenset.__iter__» Builtin.Frozenset.slot0 slotArgs;simp only[List.isEmpty_nil,Bool.not_true,Bool.false_eq_true,↓reduceIte,bind_assoc,je,bne_self_eq_false];refine za (zb ?_);dsimp only;refine za (zb ?_);refine za (za (wpAny_setEntries_of u hd C (zb ?_)));refine za (za (wpAny_setState_of u hd C ?_));refine za (za (wpAny_askSetting (zb ?_)));refine zb ?_;refine wpAny_ite_split (λf=>?_) (λf=>?_)
 ·change (!w.params.followText "set-order" && (!t.plain&&decide (es.size>1)))=true at f
  have m:w.params.followText "set-order" = false:=by
   cases h:w.params.followText "set-order" with
   |false=>rfl
   |true=>rw[h] at f;cases f
  refine za (GP _ _ _ _ List.length_range λps d y=>?_)
  have j:ps.length=es.size:=by rw[y.length_eq,List.length_range]
  refine za (wpAny_newTuple ?_ (by rw[zf,j,sizeLine_eq];unfold scanBound at O;omega));have ho':(s.heap.push {cls:=.type "tuple",data:=.seq (ps.map λi=>rawInt (i:Nat)).toArray}).get? a=some o:=zo _ u;refine za (wpAny_setEpoch_of ho' hd C ?_);unfold newFields;refine za (wpAny_newObj_type (zb ⟨_,rfl,"set_iterator",_,⟨_,zy _ rfl,rfl⟩,gQ.lookup,?_⟩))
  have:=h2 m ps d y
  rw[Heap.size_push];exact this
 ·change ¬(!w.params.followText "set-order" && (!t.plain&&decide (es.size>1)))=true at f
  have m:w.params.followText "set-order" = true\/es.size<=1:=by
   cases h:w.params.followText "set-order" with
   |true=>exact .inl rfl
   |false =>
    rw[h] at f
    rcases j with I | I
    ·omega
    ·rw[I] at f;simpa using f
  refine za (zb ?_);refine za (wpAny_setEpoch_of u hd C ?_);unfold newFields;exact za (wpAny_newObj_type (zb ⟨_,rfl,"set_iterator",_,⟨_,zy _ rfl,rfl⟩,gQ.lookup,h1 m⟩))
def tY{h:Heap}      (f:h.get? I=some o)(hd:o.data=.fields vs):∃d,(h.update I (Obj.mapFields (·.setIfInBounds i x))).get? I=some d/\d.cls=o.cls/\d.data=.fields (vs.setIfInBounds i x):=
 ⟨_,Heap.get?_update_self _ f (Obj.isFreed_of_fields (Obj.data_mapFields hd _)),Obj.cls_mapFields ..,by rw[Obj.data_mapFields hd]⟩
def GQ      (d:ItS s.heap I a (.int sl 0) i n ep)(x:cY prog w s.heap a ss o es ep t)(G:es.size=n)
  (hs:∀(X:Around) (u:Option (Value×Nat)->Shared->Prop) (W:Value->Shared->Prop),u (some (v,nx)) s->wpAny (model prog w) X (setNext a sl.toNat i ep) u W s)
  (O:∀h',ItS h' I a (.int nx 0) (i+1) n ep->Heap.SameBut I s.heap h'->Q (some v) {s with heap:=h'}):wpAny (model prog w) A (pyNext (.ref I)) Q E s:=by
 obtain⟨oI,hI,L,f⟩:=id d;obtain⟨F,Z,hd,hel,hp,hb,J,Y,y⟩:=x;unfold pyNext
 refine za (wpAny_attempt (wpAny_callSpecial?_slot (name:=Str.ofString "__next__") d.typeIs gQ
  (wpAny_call_entry gQ d.typeIs tX ?_ (Y5 _))))
 unfold Builtin.«set_iterator.__next__» slotArgs;simp only[List.isEmpty_nil,Bool.not_true,Bool.false_eq_true,↓reduceIte,bind_assoc,je,bne_self_eq_false];refine za (zb ?_);dsimp only;refine za (wpAny_fieldsOf hI f ?_);dsimp only;refine za (wpAny_setEntries_of F hd J ?_);rw[if_neg (by rw[G];simp)];refine za (hs _ _ _ ?_);dsimp only;refine za (wpAny_setField hI f (by simp) ?_);obtain⟨o1,j,U,m⟩:=tY (i:=0) (x:=rawInt (nx:Nat)) hI f;refine za (wpAny_setField (s:={s with heap:=s.heap.update I (Obj.mapFields (·.setIfInBounds 0 (rawInt (nx:Nat))))}) j m (by simp) ?_);obtain⟨C,P,T,R⟩:=tY (i:=1) (x:=rawInt ((i:Int)+1)) j m
 refine zb ⟨_,rfl,zb (O _ ⟨C,P,T.trans (U.trans L),by rw[R];simp[rawInt]⟩ ((Heap.SameBut.update ..).trans (Heap.SameBut.update ..)))⟩
def GR     (C:A.handled=none)(d:ItS s.heap I a (.int sl 0) i n ep)(x:cY prog w s.heap a ss o es ep t)(y:es.size=n)
  (hs:∀(L:Around) (j:Option (Value×Nat)->Shared->Prop) (J:Value->Shared->Prop),j none s->wpAny (model prog w) L (setNext a sl.toNat i ep) j J s)
  (G:∀h',Heap.ExtBut I s.heap h'->Q none {s with heap:=h'}):wpAny (model prog w) A (pyNext (.ref I)) Q E s:=by
 obtain⟨T,hI,W,f⟩:=id d;obtain⟨u,P,hd,R,U,X,F,O⟩:=x
 refine za (wpAny_attempt (wpAny_callSpecial?_slot d.typeIs gQ
  (wpAny_call_entry gQ d.typeIs tX ?_)))
 refine za (zb ?_);refine za (wpAny_fieldsOf hI f ?_);refine za (wpAny_setEntries_of u hd F ?_);rw[if_neg (by rw[y];simp)];refine za (hs _ _ _ ?_);refine za (wpAny_setField hI f (by simp) ?_);refine za ?_;refine za (m:=firstArgMember _ _) (wpAny_of_eq (by first | rfl | (rfl)) ?_);refine wpAny_newObj_type ?_;refine za (wpAny_handled ?_);rw[(C)];refine za (zb (wpAny_throw ?_));refine za (wpAny_isInstance ⟨_,zy _ rfl,rfl⟩ isSubtype_stop ?_);exact zb (G _ (((Heap.SameBut.update ..).extBut.push _).push _))
def Za         (d:ItS s.heap I a (.ref T) i n ep)(x:cY prog w s.heap a ss o es ep t)(C:es.size=n)
  (J:s.heap.get? T=some oT) (j:oT.data=.seq vs nT) (hv:vs[i]?=some (.int (p:Nat) 0)) (F:es[p]?=some (hs,v))
  (L:∀h',ItS h' I a (.ref T) (i+1) n ep->Heap.SameBut I s.heap h'->Q (some v) {s with heap:=h'}):wpAny (model prog w) A (pyNext (.ref I)) Q E s:=by
 obtain⟨Y,hI,G,f⟩:=id d;obtain⟨m,W,hd,X,Z,hb,u,U⟩:=x
 refine za (wpAny_attempt (wpAny_callSpecial?_slot d.typeIs gQ
  (wpAny_call_entry gQ d.typeIs tX ?_)))
 refine za (zb ?_);refine za (wpAny_fieldsOf hI f ?_);refine za (wpAny_setEntries_of m hd u ?_);rw[if_neg (by rw[C];simp)];refine za (wpAny_seqItems J j ?_);dsimp only;rw[show(i:Int).toNat=i from rfl,hv];refine za (za (wpAny_setState_of m hd u ?_));dsimp only;rw[if_neg (by simp)];rw[show(p:Int).toNat=p from rfl,F];refine zb ?_;refine za (wpAny_setField hI f (by simp) ?_);obtain⟨y,O,R,P⟩:=tY hI f;exact zb ⟨_,rfl,zb (L _ ⟨y,O,R.trans G,by rw[P];simp[rawInt]⟩ (Heap.SameBut.update ..))⟩
def Zb       (F:A.handled=none)(d:ItS s.heap I a (.ref T) i n ep)(x:cY prog w s.heap a ss o es ep t)(C:es.size=n)
  (J:s.heap.get? T=some oT) (j:oT.data=.seq vs nT) (hv:vs[i]?=none)
  (L:∀h',Heap.ExtBut I s.heap h'->Q none {s with heap:=h'}):wpAny (model prog w) A (pyNext (.ref I)) Q E s:=by
 obtain⟨X,hI,hc,f⟩:=id d;obtain⟨y,U,hd,W,Z,hb,G,R,u⟩:=x
 refine za (wpAny_attempt (wpAny_callSpecial?_slot d.typeIs gQ
  (wpAny_call_entry gQ d.typeIs tX ?_)))
 refine za (zb ?_);refine za (wpAny_fieldsOf hI f ?_);refine za (wpAny_setEntries_of y hd G ?_);rw[if_neg (by rw[C];simp)];refine za (wpAny_seqItems J j ?_);dsimp only;rw[show(i:Int).toNat=i from rfl,hv];refine za (wpAny_setField hI f (by simp) ?_);obtain⟨Y,O,c1,P⟩:=tY hI f;refine za (wpAny_setField O P (by simp) ?_);refine za ?_;refine za (m:=firstArgMember _ _) (wpAny_of_eq (by first | rfl | (rfl)) ?_);refine wpAny_newObj_type ?_;refine za (wpAny_handled ?_);rw[(F)];refine za (zb (wpAny_throw ?_));refine za (wpAny_isInstance ⟨_,zy _ rfl,rfl⟩ isSubtype_stop ?_)
 exact zb (L _ ((((Heap.SameBut.update ..).trans (Heap.SameBut.update ..)).extBut.push _).push _))
def xE     (d:ItS s.heap I a first i n ep)(h:Q (.ref I) s):wpAny (model prog w) A (pyIter (.ref I)) Q E s:=by
 refine wpAny_pyIter_slot d.typeIs GK (wpAny_call_entry GK d.typeIs Y6 ?_);exact zb ⟨_,rfl,"set_iterator",_,d.typeIs,gQ.lookup,h⟩
def GX     (x:cY prog w s.heap a ss o es ep t)(d:w.params.followText "set-order" = true)
  (h:G (((pickOrder (w.params.setOrder a ep) es)[i]?).map λe=>(e.2,sl)) s):wpAny (model prog w) J (setNext a sl i ep) G I s:=by
 obtain⟨f,u,hd,y,C,F,j,m⟩:=x;refine za (wpAny_setState_of f hd j ?_);refine za (za (wpAny_askSetting (zb ?_)));rw[if_pos (show(⟨(model _ w).prog,(model _ w).w.params⟩:Setting).params.followText _=true from d)];rw[if_neg (by simp)];refine za (za (wpAny_setState_of f hd j ?_));refine za (za (wpAny_askSetting (zb ?_)));rw[if_pos (show(⟨(model _ w).prog,(model _ w).w.params⟩:Setting).params.followText _=true from d)];exact za (wpAny_askSetting (zb (zb h)))
def GZ      (x:cY prog w s.heap a ss o es ep t)(d:w.params.followText "set-order" = false)(h1:es.size<=1)
  (h:O (match es[SetTable.below t.place sl]?,t.place[SetTable.below t.place sl]? with | some (_,x),some j=>some (x,j+1) | _,_=>none) s):wpAny (model prog w) P (setNext a sl i ep) O Q s:=by
 obtain⟨y,G,hd,I,J,L,C,F,f⟩:=x
 have u:t.led=true:=by rw[f,d];rfl
 refine za (wpAny_setState_of y hd C ?_);refine za (za (wpAny_askSetting (zb ?_)));rw[if_neg (λz=>by have:=d.symm.trans z;cases this)]
 refine wpAny_ite_split (λm=>?_) λm=>?_
 ·change (!t.plain&&decide _)=true at m
  rw[zD,decide_eq_true_eq] at m;omega
 ·refine za ?_;show wpAny _ P (if(!t.led && !es.isEmpty)=true then unsupported _ else pure ()) _ _ _;rw[if_neg (by rw[u];simp)];refine zb ?_;exact zb h
theorem G3  (next:Nat->Nat):∀(fuel k:Nat) (left:List α) (out:Array α),left.length=fuel->(pickOrder.go next fuel k left out).toList.Perm (out.toList++left)
 | 0,k,left,out,h=>by
  rw[List.length_eq_zero_iff.mp h];unfold pickOrder.go;simp
 |fuel+1,k,left,out,h=>by
  unfold pickOrder.go;have d:next k % left.length<left.length:=Nat.mod_lt _ (by omega);rw[zt d];refine(G3 _ _ _ _ _ (by rw[List.length_eraseIdx_of_lt d];omega)).trans ?_;rw[Array.toList_push,zB];exact List.Perm.append_left _ (xD _ _ d)
def qg  (next:Nat->Nat)(xs:Array α):(pickOrder next xs).toList.Perm xs.toList:=by
 have:=G3 next xs.size 0 _ #[] Array.length_toList
 simpa
def map_range{α:Type}(xs:Array α)(ps:List Nat)(h:ps.Perm (List.range xs.size)):∃ys:List α,ys.Perm xs.toList/\ps.length=ys.length/\∀(i p:Nat),ps[i]?=some p->xs[p]?=ys[i]?:=by
 have f:∀p∈ps,p<xs.size:=λp u=>List.mem_range.mp (h.mem_iff.mp u)
 refine⟨ps.filterMap λp=>xs[p]?,?_,?_,?_⟩
 ·refine(h.filterMap _).trans ?_
  have :=by
   have e:∀l:List α,(List.range l.length).filterMap (λp=>l[p]?)=l:=λl=>by
    induction l with
    |nil=>rfl
    |cons  =>
     rw[zw,List.range_succ_eq_map,List.filterMap_cons];simp;congr 1
   have:=e xs.toList
   simpa
  rw[this]
 ·have e:∀l:List _,(∀p∈l,p<xs.size)->l.length=(l.filterMap λp=>xs[p]?).length:=λl=>by
   induction l with
   |nil=>intro _;rfl
   |cons p l ih =>
    intro d;rw[List.filterMap_cons,Array.getElem?_eq_getElem (d p zd)];rw[zw,zw, ih λq m=>d q (zm _ m)]
  exact e ps f
 ·have e:∀(l:List _),(∀p∈l,p<xs.size)->∀(i p:Nat),l[i]?=some p->xs[p]?=(l.filterMap λp=>xs[p]?)[i]?:=λl=>by
   induction l with
   |nil=>intro _ i p j;cases j
   |cons q l ih =>
    intro d i p j;rw[List.filterMap_cons,Array.getElem?_eq_getElem (d q zd)]
    cases i with
    |zero =>
     cases j;rw[Array.getElem?_eq_getElem];rfl
    |succ i=>exact ih (λq m=>d q (zm _ m)) i p j
  exact e ps f
end
def PSt(xs:List Str)(i:Nat)(v:Value):Prop:=∃x t,xs[i]?=some x/\v=.str x t
section
variable {prog:Program}{w:World}{A:Around}{E:Value->Shared->Prop}{s:Shared}{a:Addr}{ss:List Str}{o:Obj}{es:Array (Int×Value)}{ep:Nat}{t:SetTable}
def ItS.at{h h':Heap}{I:Addr}{first:Value}{i n:Nat}(x:ItS h I a first i n ep)(e:∀o,h.get? I=some o->h'.get? I=some o):ItS h' I a first i n ep:=let ⟨o,ho,r⟩:=x;⟨o,e _ ho,r⟩
def cY.at{h h':Heap}(x:cY prog w h a ss o es ep t)(e:∀o,h.get? a=some o->h'.get? a=some o):cY prog w h' a ss o es ep t:=⟨e _ x.1,x.2⟩
def xF   (e:Heap.SameBut I s.heap h'):Moved [I] Eq s {s with heap:=h'}:=⟨λb o d q=>(e.2 b λz=>d (by rw[z];exact zh.mpr rfl)).trans q,rfl,rfl,rfl,zc _⟩
def xG   (e:Heap.ExtBut I s.heap h'):Moved [I] Eq s {s with heap:=h'}:=⟨λb o d q=>e b o (λz=>d (by rw[z];exact zh.mpr rfl)) q,rfl,rfl,rfl,zc _⟩
def xH{s:Shared}{x:cY prog w s.heap a ss o es ep t}{l:List (Int×Value)}(m:l.Perm es.toList)   (f:l[i]?=some e):PSt (l.map λe=>strOf e.2) i e.2:=by
 obtain⟨⟨k,u,_⟩⟩:=x.2.2.2.1 e (m.mem_iff.mp (zJ f));obtain⟨j,d⟩:=Value.isStrOf_shape u;exact⟨k,j,by rw[zC,f,Option.map_some,d];rfl,d⟩
def Zc  (hh:A.handled=none)(hne:a≠I)(hft:w.params.followText "set-order" = true):
  WalksS prog w A I [I,a] [I] Eq es.size (PSt ((pickOrder (w.params.setOrder a ep) es).toList.map λe=>strOf e.2)) (λi s=>ItS s.heap I a (.int 0 0) i es.size ep/\cY prog w s.heap a ss o es ep t) where
 sub:=by simp
 grefl:=λ_=>rfl
 gtrans:=λ_ _ _ h1 h2=>h1.trans h2
 frame:=λi s h' tk st _ k=>⟨st.1.at λo e=>k I (by simp) o e,st.2.at λo e=>k a (by simp) o e⟩
 item:=λi s Q E hi st hQ=>by
  have hsz:(pickOrder (w.params.setOrder a ep) es).size=es.size:=by rw[<-Array.length_toList,(qg _ es).length_eq,Array.length_toList]
  have he:(pickOrder (w.params.setOrder a ep) es)[i]?=some ((pickOrder (w.params.setOrder a ep) es)[i]'(by omega)):=Array.getElem?_eq_getElem (by omega)
  refine GQ (nx:=0) st.1 st.2 rfl (λA' Q' E' q=>GX st.2 hft (by rw[he];exact q)) λh' it' sb=>hQ _ _ ?_ ⟨it',st.2.at λo e=>(sb.2 a hne).trans e⟩ (xF sb)
  exact xH (x:=st.2) (qg _ es) (by rw[Array.getElem?_toList];exact he)
 done:=λs Q E st hQ=>by
  have hsz:(pickOrder (w.params.setOrder a ep) es).size=es.size:=by rw[<-Array.length_toList,(qg _ es).length_eq,Array.length_toList]
  have he:(pickOrder (w.params.setOrder a ep) es)[es.size]?=none:=Array.getElem?_eq_none (by omega)
  exact GR hh st.1 st.2 rfl (λA' Q' E' q=>GX st.2 hft (by rw[he];exact q)) λh' e=>hQ _ (xG e)
 self:=λi s Q E st h=>xE st.1 h
def G4(j k:Nat):SetTable.below #[j] k=if j<k then 1 else 0:=by
 show SetTable.below.go _ k 1 0 1=_;rfl
def Zd    (hh:A.handled=none)(hne:a≠I)(hft:w.params.followText "set-order" = false)(hes:es = #[e])(hj:t.place = #[j]):
  WalksS prog w A I [I,a] [I] Eq 1 (PSt (es.toList.map λe=>strOf e.2)) (λi s=>ItS s.heap I a (.int (if i=0 then 0 else((j+1:Nat):Int)) 0) i 1 ep/\cY prog w s.heap a ss o es ep t) where
 sub:=by simp
 grefl:=λ_=>rfl
 gtrans:=λ_ _ _ h1 h2=>h1.trans h2
 frame:=λi s h' tk st _ k=>⟨st.1.at λo e=>k I (by simp) o e,st.2.at λo e=>k a (by simp) o e⟩
 item:=λi s Q E hi st hQ=>by
  have hi0:i=0:=by omega
  subst hi0
  refine GQ (nx:=j+1) (v:=e.2) st.1 st.2 (by rw[hes];rfl) (λA' Q' E' q=>GZ st.2 hft (by rw[hes];exact zc _) ?_) λh' it' sb=>hQ _ _ ?_ ⟨it',st.2.at λo e=>(sb.2 a hne).trans e⟩ (xF sb)
  ·rw[hj,show(if(0:Nat)=0 then(0:Int) else((j+1:Nat):Int)).toNat=0 from rfl,G4,if_neg (Nat.not_lt_zero _),hes];exact q
  ·exact xH (x:=st.2) (.refl _) (e:=e) (by rw[hes];rfl)
 done:=λs Q E st hQ=>by
  refine GR hh st.1 st.2 (by rw[hes];rfl) (λA' Q' E' q=>GZ st.2 hft (by rw[hes];exact zc _) ?_) λh' e=>hQ _ (xG e)
  rw[hj,show(if(1:Nat)=0 then(0:Int) else((j+1:Nat):Int)).toNat=j+1 from rfl,G4,if_pos (jd _),hes];exact q
 self:=λi s Q E st h=>xE st.1 h
def Ze   {ps:List Nat}  {ys:List (Int×Value)}(hh:A.handled=none)(hne:a≠I)(hnT:T≠I)(hTd:oT.data=.seq (ps.map λi=>Value.int (i:Nat) 0).toArray nT)
  (hy:ys.Perm es.toList) (hl:ps.length=es.size) (hp:∀(i p:Nat),ps[i]?=some p->es[p]?=ys[i]?):
  WalksS prog w A I [I,a,T] [I] Eq es.size (PSt (ys.map λe=>strOf e.2)) (λi s=>ItS s.heap I a (.ref T) i es.size ep/\cY prog w s.heap a ss o es ep t/\s.heap.get? T=some oT) where
 sub:=by simp
 grefl:=λ_=>rfl
 gtrans:=λ_ _ _ h1 h2=>h1.trans h2
 frame:=λi s h' tk st _ k=>⟨st.1.at λo e=>k I (by simp) o e,st.2.1.at λo e=>k a (by simp) o e,k T (by simp) _ st.2.2⟩
 item:=λi s Q E hi st hQ=>by
  have hi':i<ps.length:=by omega
  have e1:=zt hi'
  have hyl:ys.length=es.size:=by rw[hy.length_eq,Array.length_toList]
  have e2:=zt (l:=ys) (i:=i) (by omega);have e3:=(hp i _ e1).trans e2
  refine Za (hs:=_) st.1 st.2.1 rfl st.2.2 hTd (p:=ps[i]) ?_ (v:=(ys[i]'(by omega)).2) e3 λh' it' sb=>hQ _ _ ?_ ⟨it',st.2.1.at λo e=>(sb.2 a hne).trans e,(sb.2 T hnT).trans st.2.2⟩ (xF sb)
  ·rw[List.getElem?_toArray,zC,e1];rfl
  ·exact xH (x:=st.2.1) hy e2
 done:=λs Q E st hQ=>by
  refine Zb hh st.1 st.2.1 rfl st.2.2 hTd ?_ λh' e=>hQ _ (xG e)
  rw[List.getElem?_toArray,zC,jq (by omega)];rfl
 self:=λi s Q E st h=>xE st.1 h
def Zf{s:Shared}  (O:A.handled=none)(hS:cL prog w s.heap a ss)(R:ss≠[])
  (h:∀(F:Shared) (I:Addr) (fp:List Addr) (St:Nat->Shared->Prop) (xs:List Str),(∀b o,s.heap.get? b=some o->F.heap.get? b=some o)->F.gens=s.gens->F.os=s.os->F.toks=s.toks->xs.Perm ss->s.heap.objs.size<=I ->
   (∀b∈fp,b=a\/s.heap.objs.size<=b)->WalksS prog w A I fp [I] Eq xs.length (PSt xs) St->St 0 F->Q (.ref I) F):wpAny (model prog w) A (pyIter (.ref a)) Q E s:=by
 obtain⟨o,es,ep,t,x⟩:=hS;have C:=zl x.1
 have hlen:es.size=ss.length:=by rw[<-x.2.2.2.2.1.length_eq];unfold mj;rw[zf,Array.length_toList]
 have X:0<es.size:=by rw[hlen];exact List.length_pos_iff.mpr R
 refine Y9 x (λG=>?_) (λy ps d m=>?_)
 ·have U:cY prog w (s.heap.push {cls:=.type "set_iterator",data:=.fields #[.int 0 0,.int 0 0,.ref a,.int es.size 0,.int ep 0]}) a ss o es ep t:=x.at λo e=>zo _ e
  cases y:w.params.followText "set-order" with
  |true =>
   have W:=Zc (prog:=prog) (o:=o) (ss:=ss) (es:=es) (ep:=ep) (t:=t) O (zp C) y;refine h _ _ [s.heap.objs.size,a] (λi u=>ItS u.heap s.heap.objs.size a (.int 0 0) i es.size ep/\cY prog w u.heap a ss o es ep t) ((pickOrder (w.params.setOrder a ep) es).toList.map _) (λb o e=>zo _ e) rfl rfl rfl (((qg _ es).map _).trans ((x.2.2.2.2.1))) (zc _) (λb f=>?_) ?_ ⟨⟨_,zy _ rfl,rfl,rfl⟩,U⟩
   ·rcases zk.mp f with rfl | f
    ·exact .inr (zc _)
    ·exact .inl (zh.mp f)
   ·rw[zf,(qg _ es).length_eq,Array.length_toList];exact W
  |false =>
   have h1:es.size=1:=by
    rcases G with G | G
    ·rw[y] at G;cases G
    ·omega
   obtain⟨e,T⟩:∃e,es = #[e]:=by
    obtain⟨l⟩:=es
    match l,h1 with
    | [e],_=>exact⟨e,rfl⟩
   have J:=x.2.2.2.2.2.2.1
   obtain⟨j,Z⟩:∃j,t.place = #[j]:=by
    have m:t.place.size=1:=by
     simp only[SetTable.fits,zD,beq_iff_eq] at J;omega
    revert m
    generalize t.place=pl
    intro m;obtain⟨l⟩:=pl
    match l,m with
    | [j],_=>exact⟨j,rfl⟩
   have W:=Zd (prog:=prog) (o:=o) (ss:=ss) (ep:=ep) O (zp C) y T Z;refine h _ _ [s.heap.objs.size,a] (λi u=>ItS u.heap s.heap.objs.size a (.int (if i=0 then 0 else((j+1:Nat):Int)) 0) i 1 ep/\cY prog w u.heap a ss o es ep t) (es.toList.map _) (λb o e=>zo _ e) rfl rfl rfl ((x.2.2.2.2.1)) (zc _) (λb f=>?_) ?_ ⟨⟨_,zy _ rfl,rfl,by rw[h1];rfl⟩,U⟩
   ·rcases zk.mp f with rfl | f
    ·exact .inr (zc _)
    ·exact .inl (zh.mp f)
   ·rw[zf,Array.length_toList,h1];exact W
 ·obtain⟨ys,L,hl,Y⟩:=map_range es ps m
  have hl':ps.length=es.size:=by rw[m.length_eq,List.length_range]
  have P:(s.heap.push {cls:=.type "tuple",data:=.seq (ps.map λi=>Value.int (i:Nat) 0).toArray}).objs.size=s.heap.objs.size+1:=Heap.size_push _ _;have W:=Ze (prog:=prog) (w:=w) (A:=A) (a:=a) (ss:=ss) (o:=o) (ep:=ep) (t:=t) (oT:={cls:=.type "tuple",data:=.seq _}) (ps:=ps) O (zp (jk C)) (zp (jd _)) rfl L hl' Y;refine h _ _ [s.heap.objs.size+1,a,s.heap.objs.size] (λi u=>ItS u.heap (s.heap.objs.size+1) a (.ref s.heap.objs.size) i es.size ep/\cY prog w u.heap a ss o es ep t/\u.heap.get? s.heap.objs.size=some _) _ (λb o e=>zo _ (zo _ e)) rfl rfl rfl ((L.map _).trans ((x.2.2.2.2.1))) (Nat.le_succ _) (λb f=>?_) ?_ ⟨⟨_,by rw[<-P];exact zy _ rfl,rfl,rfl⟩,x.at λo e=>zo _ (zo _ e),zo _ (zy _ rfl)⟩
  ·rcases zk.mp f with rfl | f
   ·exact .inr (Nat.le_succ _)
   ·rcases zk.mp f with rfl | f
    ·exact .inl rfl
    ·exact .inr (by rw[zh.mp f];exact zc _)
  ·rw[zf,L.length_eq,Array.length_toList];exact W
def Zg   (d:s.TypeIs (.ref r) "set")(h:Q false s):wpAny (model prog w) A (Builtin.List.listLengthHint (.ref r)) Q E s:=by
 refine za (wpAny_specialOf d PySem.F.slot_set_len.lookup ?_)
 generalize hid:"set.__len__" = id0
 subst hid;refine za (wpAny_isInstance (b:=true) d (by kernel_rfl) ?_);refine za (wpAny_typeOf d ?_);exact zb h
def Zh:∀{xs:List Str}{acc:Array Value},ItemsOf (PSt xs) acc xs.length->StrsAre acc.toList xs:=by
 intro xs acc h
 have e:∀(d ) (xs ),d.length=xs.length->(∀i v,d[i]?=some v->PSt xs i v)->StrsAre d xs:=λd=>by
  induction d with
  |nil=>intro xs j _;cases xs with
   |nil=>exact .nil
   |cons =>cases j
  |cons v d ih =>
   intro xs j f
   cases xs with
   |nil=>cases j
   |cons x xs =>
    obtain⟨y,t,C,m⟩:=f 0 v rfl;cases C;subst m;refine .cons x t (ih xs (Nat.succ.inj j) λi u G=>?_);obtain⟨y,F,C,m⟩:=f (i+1) u G;exact⟨y,F,C,m⟩
 refine e _ _ ?_ λi v f=>?_
 ·exact h.1
 ·rw[Array.getElem?_toList] at f;exact h.2 i v f
def Zi  (hh:A.handled=none)(hS:cL prog w s.heap a ss)(hne:ss≠[])
  (h:∀(d:Shared) (acc:List Value) (xs:List Str),(∀b o,s.heap.get? b=some o->d.heap.get? b=some o)->d.gens=s.gens->d.os=s.os->s.heap.objs.size<d.heap.objs.size->StrsAre acc xs->xs.Perm ss->R acc d):
  wpAny (model prog w) A (collect (.ref a)) R E s:=by
 have hlt:a<s.heap.objs.size:=by obtain⟨_,_,_,_,x⟩:=hS;exact zl x.1
 unfold collect;refine za (wpAny_runValue (jc entry_proto_collect' ?_));rw[Around.under_plainId PySem.F.plain_proto_collect _];refine za (wpAny_newObj_type ?_);refine zb ⟨plainId_quiet PySem.F.plain_list_iadd _,jc entry_list_iadd' ?_⟩;rw[Around.under_plainId PySem.F.plain_list_iadd _];have Q:(s.heap.push {cls:=.type "list",data:=.seq ([]:List Value).toArray}).get? s.heap.objs.size=some {cls:=.type "list",data:=.seq #[]}:=zy _ rfl
 have G:cL prog w (s.heap.push {cls:=.type "list",data:=.seq ([]:List Value).toArray}) a ss:=hS.at λo e=>zo _ e
 show wpAny _ A.in1 (Builtin.List.listExtendWith (.ref s.heap.objs.size) (.ref a) (.ref s.heap.objs.size)) _ _ _;unfold Builtin.List.listExtendWith
 have hT:Shared.TypeIs {s with heap:=s.heap.push {cls:=.type "list",data:=.seq ([]:List Value).toArray}} (.ref a) "set":=by
  obtain⟨o,_,_,_,x⟩:=G;exact⟨o,x.1,x.2.1.1⟩
 refine za (wpAny_typeOf (T:="set") hT ?_)
 have h1:Builtin.List.listSameRef (.ref s.heap.objs.size) (.ref a)=false:=by simp[Builtin.List.listSameRef,Nat.ne_of_gt hlt]
 simp only[h1,show(Value.type "set" == Value.type "list")=false by decide,show(Value.type "set" == Value.type "tuple")=false by decide,Bool.or_false,Bool.false_eq_true,if_false];refine za (Zf (by simp[hh]) G hne λy I fp St xs k eg eo et hp hI hfp W st=>?_);have O:=k _ _ Q;have hsz:(s.heap.push {cls:=.type "list",data:=.seq ([]:List Value).toArray}).objs.size=s.heap.objs.size+1:=Heap.size_push _ _
 have J:s.heap.objs.size∉fp:=λu=>by
  rcases hfp _ u with z | z
  ·exact Nat.ne_of_gt hlt z
  ·change (s.heap.push {cls:=.type "list",data:=.seq ([]:List Value).toArray}).objs.size<=_ at z
   omega
 have hn:xs.length<=sizeLine:=by
  have:=hS.len
  rw[hp.length_eq,sizeLine_eq];unfold scanBound at this;omega
 refine za (zS (Zg ?_ ?_))
 ·obtain⟨o,ho,hc⟩:=hT;exact⟨o,k _ _ ho,hc⟩
 have fin:∀(d:Shared) (f:Array Value) (U:Nat),(∀b o,s.heap.get? b=some o->d.heap.get? b=some o)->d.gens=s.gens->d.os=s.os->s.toks<=d.toks->d.heap.get? s.heap.objs.size=some {cls:=.type "list",dict:=none,data:=.seq f U,slots:=#[]}->ItemsOf (PSt xs) f xs.length ->
   wpAny (model prog w) A (load s.heap.objs.size >>= λo=>match o.data with | .seq xs _=>pure xs.toList | _=>unsupported "internal:collect") R E d:=λd f U Z Y X e4 e5 e6 =>
  za (wpAny_load e5 (zb (h d _ xs Z Y X (zl e5) (Zh e6) hp)))
 have kk:∀(d:Shared) (h2:Heap),(∀b o,b≠s.heap.objs.size->y.heap.get? b=some o->h2.get? b=some o)->Moved (s.heap.objs.size :: [I]) Eq {y with heap:=h2} d->(∀b o,s.heap.get? b=some o->d.heap.get? b=some o)/\d.gens=s.gens/\d.os=s.os/\s.toks<=d.toks:=λd h2 q u=>by
  refine⟨λb o e=>?_,?_,u.os.trans eo,?_⟩
  ·have C:=zl e;refine u.heap b o (λz=>?_) (q b o (zp C) (k b o (zo _ e)))
   rcases zk.mp z with z | z
   ·exact zp C z
   ·have z':=zh.mp z;rw[<-z',hsz] at hI;exact absurd C (Nat.not_lt.mpr (Nat.le_of_succ_le hI))
  ·exact u.gens.symm.trans eg
  ·have:=u.toks
   have et':y.toks=s.toks:=et;rw[<-et'];exact this
 refine wpAny_ite_split (λ_=>?_) (λ_=>zb ⟨plainId_quiet PySem.F.plain_extend_loop _,?_⟩)
 ·refine za (zW ?_);refine za ?_;refine za (jm O rfl ?_);have m:=Heap.get?_update_self (Obj.mapSeq (·.push Value.none)) O rfl;refine jm (hz:=by seq_fits) m rfl ?_;have P:=Heap.get?_update_self (Obj.mapSeq (·.pop)) m rfl
  have hk:∀b o,b≠s.heap.objs.size->y.heap.get? b=some o->((y.heap.update s.heap.objs.size (Obj.mapSeq (·.push Value.none))).update s.heap.objs.size (Obj.mapSeq (·.pop))).get? b=some o:=λb o C e =>
   (jh _ _ (Ne.symm C)).trans ((jh _ _ (Ne.symm C)).trans e)
  refine zb ⟨plainId_quiet PySem.F.plain_extend_loop _,?_⟩
  refine codeAny_extend_loopS W hn s.heap.objs.size J (.ref s.heap.objs.size) xs.length 0 _ #[] _ rfl (Nat.zero_le _) ?_ P (ItemsOf.nil _) λd f U u L j=>?_
  ·exact W.frame 0 y _ y.toks st (zc _) λb C o e=>hk b o (λz=>J (z ▸ C)) e
  ·obtain⟨Z,Y,X,e4⟩:=kk d _ hk u;exact fin d f U Z Y X e4 L j
 ·refine codeAny_extend_loopS W hn s.heap.objs.size J (.ref s.heap.objs.size) xs.length 0 _ #[] _ rfl (Nat.zero_le _) st O (ItemsOf.nil _) λd f U u L j=>?_
  obtain⟨Z,Y,X,e4⟩:=kk d y.heap (λb o _ e=>e) u;exact fin d f U Z Y X e4 L j
def Zj{s:Shared}  (R:A.handled=none)(U:cL prog w s.heap a ss)(C:ss≠[])(Z:ss.length<64)
  (h:∀(x:Shared) (D:Addr) (c:Nat) (out:List Value) (d:List Str),(∀b o,s.heap.get? b=some o->x.heap.get? b=some o)->x.gens=s.gens->x.os=s.os->s.heap.objs.size<=D->x.heap.get? D=some (seqObj "list" out.toArray c) ->
   StrsAre out d->d.Perm ss->sortedS d=true->Q (.ref D) x):
  wpAny (model prog w) A (call (.builtin "sorted") [.ref a]) Q E s:=by
 refine Calls.call_function_entry kind_sorted plain_sorted entry_sorted (args_sorted1 _) ?_;unfold Builtin.«sorted»;refine za (m:=checkCount "sorted" 1 1 _) (zb ?_);refine za (Zi (by simp[R]) U C λf vs xs k Y X W j F=>?_)
 have hlen:vs.length=ss.length:=by rw[<-F.length_eq,<-j.strs,zf]
 refine za (wpAny_newList ?_ (by rw[sizeLine_eq];omega));have u:(f.heap.push (seqObj "list" vs.toArray 0)).get? f.heap.objs.size=some (seqObj "list" vs.toArray 0):=zy _ rfl;show wpAny _ _ _ _ _ {f with heap:=f.heap.push (seqObj "list" vs.toArray 0)};refine za (zS (wpAny_call_entry slot_list_sort ⟨_,u,rfl⟩ entry_list_sort (list_sort_treeK (s:={f with heap:=f.heap.push (seqObj "list" vs.toArray 0)}) strKind_oneLt u j.keysOf (λJ I rest e=>keyKind_strs (by rw[<-e];exact j)) (by omega) λy a1 a2=>⟨_,rfl,?_⟩) (args_list_sort _)));obtain⟨d,P,O,L⟩:=sorted_out_str j a1 a2
 obtain⟨c,T⟩:=sortedHeap_at (vs:=vs) (out:=((arrOf y).map (·.2))) u;refine zb ⟨_,rfl,h _ f.heap.objs.size c _ d (λb o e=>?_) Y X ?_ (by rw[Array.toArray_toList];exact T) P (O.trans F) L⟩
 ·have G:=zl (k b o e);show(sortedHeap (f.heap.push (seqObj "list" vs.toArray 0)) f.heap.objs.size vs ((arrOf y).map (·.2))).get? b=some o;rw[sortedHeap_old (zp G) (by rw[size_push'];exact jk G)];exact zo _ (k b o e)
 ·exact Nat.le_of_lt W
end
def xJ{a:List Nat}(h:¬b<a):a<b\/a=b:=by
 by_cases q:a<b
 ·exact .inl q
 ·exact .inr (List.le_antisymm (List.not_lt.mp h) (List.not_lt.mp q))
def kY(x:List Nat):List (List Nat)->List (List Nat)
 | []=>[x]
 |y::r=>if x<y then x::y::r else if x=y then y::r else y::kY x r
def jE(l:List (List Nat)):List (List Nat):=l.foldr kY []
def stepT(ss:List (List Nat))(x:List Nat):List (List Nat):=if x∈ss then ss else ss++[x]
theorem xK(x y:List Nat):∀l,y∈kY x l↔y=x\/y∈l
 | []=>by simp[kY]
 |z::r=>by
  unfold kY
  split
  ·simp
  ·split
   ·rename_i e;subst e;simp
   ·rw[zk,xK ,zk];constructor
    ·rintro(h | h | h)
     ·exact .inr (.inl h)
     ·exact .inl h
     ·exact .inr (.inr h)
    ·rintro(h | h | h)
     ·exact .inr (.inl h)
     ·exact .inl h
     ·exact .inr (.inr h)
theorem G5(x:List Nat):∀l,l.Pairwise (· < ·)->(kY x l).Pairwise (· < ·)
 | [],_=>List.pairwise_singleton _ _
 |y::r,h=>by
  obtain⟨h1,h2⟩:=List.pairwise_cons.mp h;unfold kY
  split
  ·rename_i f;refine List.pairwise_cons.mpr ⟨λz d=>?_,h⟩
   rcases zk.mp d with rfl | d
   ·exact f
   ·exact List.lt_trans f (h1 z d)
  ·split
   ·exact h
   ·rename_i j m;refine List.pairwise_cons.mpr ⟨λz d=>?_,G5 x r h2⟩
    rcases(xK x z r).mp d with rfl | d
    ·rcases xJ j with q | q
     ·exact q
     ·exact absurd q.symm m
    ·exact h1 z d
theorem xN:∀l,(jE l).Pairwise (· < ·)
 | []=>.nil
 |x::l=>G5 x _ (xN l)
theorem tZ(y:List Nat):∀l,y∈jE l↔y∈l
 | []=>Iff.rfl
 |x::l=>by
  show y∈kY x (jE l)↔_;rw[xK,tZ ,zk]
theorem G6:∀(l1 d:List (List Nat)),l1.Pairwise (· < ·)->d.Pairwise (· < ·)->(∀x,x∈l1↔x∈d)->l1=d
 | [],[],_,_,_=>rfl
 | [],y::d,_,_,h=>nomatch (h y).mpr zd
 |x::l1,[],_,_,h=>nomatch (h x).mp zd
 |x::l1,y::d,h1,h2,h=>by
  obtain⟨a1,a2⟩:=List.pairwise_cons.mp h1;obtain⟨j,m⟩:=List.pairwise_cons.mp h2
  have e:x=y:=by
   rcases zk.mp ((h x).mp zd) with e | e
   ·exact e
   ·rcases zk.mp ((h y).mpr zd) with q | q
    ·exact q.symm
    ·exact absurd (List.lt_trans (j x e) (a1 y q)) (List.lt_irrefl y)
  subst e;rw[G6 l1 d a2 m λz=>?_];constructor
  ·intro f
   rcases zk.mp ((h z).mp (zm _ f)) with q | q
   ·subst q;exact absurd (a1 z f) (List.lt_irrefl z)
   ·exact q
  ·intro f
   rcases zk.mp ((h z).mpr (zm _ f)) with q | q
   ·subst q;exact absurd (j z f) (List.lt_irrefl z)
   ·exact q
def Zk(l:List (List Nat))(x:List Nat):eO (l.map S) (S x)=(stepT l x).map S:=by
 unfold eO stepT
 by_cases h:x∈l
 ·rw[if_pos h,if_pos (zz.mpr ⟨x,h,rfl⟩)]
 ·rw[if_neg h,if_neg λz=>?_,zM];rfl;obtain⟨y,d,e⟩:=zz.mp z;rw[nG e] at d;exact h d
theorem t7:∀(xs acc:List (List Nat)),(xs.map S).foldl eO (acc.map S)=(xs.foldl stepT acc).map S
 | [],acc=>rfl
 |x::xs,acc=>by
  rw[zg,List.foldl_cons,Zk];exact t7 xs _
theorem t8(y:List Nat):∀(xs acc:List (List Nat)),y∈xs.foldl stepT acc↔y∈acc\/y∈xs
 | [],acc=>by simp
 |x::xs,acc=>by
  rw[List.foldl_cons,t8 ];unfold stepT
  split
  ·rename_i h;constructor
   ·rintro(q | q)
    ·exact .inl q
    ·exact .inr (zm _ q)
   ·rintro(q | q)
    ·exact .inl q
    ·rcases zk.mp q with rfl | q
     ·exact .inl h
     ·exact .inr q
  ·rw[zx,zh,zk,or_assoc]
theorem xO:∀(xs acc:List (List Nat)),acc.Nodup->(xs.foldl stepT acc).Nodup
 | [],acc,h=>h
 |x::xs,acc,h=>by
  refine xO xs _ ?_;unfold stepT
  split
  ·exact h
  ·rename_i hx;rw[jg];refine⟨h,by simp,λa f b d=>?_⟩;rw[zh] at d;subst d;intro e;subst e;exact hx f
theorem G7:∀(l:List Str),sortedS l=true->(l.map λx=>x.cps.toList).Pairwise (λa b=>¬b<a)
 | [],_=>.nil
 | [x],_=>List.pairwise_singleton _ _
 |x::y::r,h=>by
  have h':risingS x _=true:=h;unfold risingS at h';rw[zD,Bool.not_eq_true',ltCps_eq,decide_eq_false_iff_not] at h';have j:=G7 (y::r) h'.2;rw[zg];refine List.pairwise_cons.mpr ⟨λz f=>?_,j⟩
  rcases zk.mp f with rfl | f
  ·exact h'.1
  ·have:=(List.pairwise_cons.mp j).1 z f
   intro q
   rcases xJ h'.1 with d | d
   ·exact this (List.lt_trans q d)
   ·rw[d] at q;exact this q
def Zm   (f:ss.Perm ((l.map S).foldl eO []))(hs:sortedS ss=true):ss=(jE l).map S:=by
 have e:=t7 l [];rw[zX] at e;rw[e] at f
 have j:(ss.map λx:Str=>x.cps.toList)=jE l:=by
  have d:(ss.map λx:Str=>x.cps.toList).Perm (l.foldl stepT []):=by
   refine(f.map _).trans ?_;rw[zO];rw[show((λx:Str=>x.cps.toList) ∘ S)=id from funext λa=>lN a,List.map_id]
  have m:=d.nodup_iff.mpr (xO l [] .nil)
  refine G6 _ _ ?_ (xN l) λx=>?_
  ·refine(List.Pairwise.and (G7 ss hs) m).imp λ{a b} h=>?_
   rcases xJ h.1 with q | q
   ·exact q
   ·exact absurd q h.2
  ·rw[tZ,d.mem_iff,t8];simp
 have t:∀x:Str,S x.cps.toList=x:=λx=>by cases x;simp[S]
 rw[<-j,zO]
 conv=>lhs;rw[<-List.map_id ss]
 exact zY λx _=>(t x).symm
section
variable {X:Cx}
def Inv.drew{X:Cx}{pins:List (Addr×Obj)}{σ:St}{H:Hp}{s:Shared}{d:Drawn}(I:Inv X pins σ H s):Inv X pins σ H {s with drawn:=d}:=⟨I.ok,I.os,I.bare,I.base,I.loc,I.cell,I.free,I.freeC,I.pin,I.hok,I.len⟩
theorem G8:∀{ss:List Str}{d:List Value},aF (ss.map V.str) d->StrsAre d ss
 | [],_,h=>by cases h;exact .nil
 |x::ss,_,h=>by
  cases h with
  |cons a b =>
   obtain⟨t,rfl⟩:=a;exact .cons x t (G8 b)
theorem G9:∀{ss:List Str}{d:List Value},StrsAre d ss->aF (ss.map V.str) d
 | _,_,.nil=>.nil
 | _,_,.cons x t h=>.cons ⟨t,rfl⟩ (G9 h)
def Zn(P:Program)(w:World)(K:Frag):List V->Hp->VK->Prop:=λd H Q=>∃(a:Addr) (ss:List Str),d=[.ref a]/\SqL K H a (ss.map V.str)/\ss.length<4000/\∀l,H l=none->Q (.ref l) (upd H l (.ext λh=>cL P w h l (ss.foldl eO [])))
def Zo(C:X.calm=true):cZ X (.type "set") (Zn X.prog X.w X.K):=by
 intro pins s σ H G J Q I r h;obtain⟨a,ss,rfl,y,O,q⟩:=h;obtain⟨u,rfl,j⟩:=vals1 r;cases j;obtain⟨F,d,pl,L⟩:=I.list y
 have hlen :=by have:=d.length;rw[zf] at this;exact this.symm
 refine Y4 (I.ok.hd C) pl.isList (G8 d) (by rw[zI];unfold scanBound;omega) λE tk f k=>?_
 refine⟨.ref _,_,I.laid k (zc _) (show bU _ _ _ E _ (.ext _) from⟨f,?_,λh1 h2 t m=>cL.at t m⟩),rfl,q _ (I.hok.fresh (zc _))⟩;obtain⟨o,_,_,_,x⟩:=f;exact⟨o,x.1⟩
def Zq(P:Program)(w:World):List V->Hp->VK->Prop:=λf H Q=>∃(a:Addr) (ss:List Str),f=[.ref a]/\H a=some (.ext λh=>cL P w h a ss)/\ss≠[]/\ss.length<64/\∀l d,d.Perm ss->sortedS d=true->H l=none->Q (.ref l) (upd H l (.lst (d.map V.str)))
def Zr(F:X.calm=true):cZ X (.builtin "sorted") (Zq X.prog X.w):=by
 intro pins s σ H R T Q I r h;obtain⟨a,ss,rfl,G,m,x,q⟩:=h;obtain⟨u,rfl,E⟩:=vals1 r;cases E;have J :=(I.hok a _ G).1
 refine Zj (I.ok.hd F) J m x λC D c out d k P O hD t f y hs=>?_
 obtain⟨L⟩:=C;subst P;subst O
 have j:(d.map V.str).length<=sizeLine:=by rw[zf,y.length_eq,sizeLine_eq];omega
 exact⟨.ref D,_,(I.laid k hD (show bU _ _ _ L _ (.lst _) from⟨j,out,c,G9 f,t⟩)).drew,rfl,q _ _ y hs (I.hok.fresh hD)⟩
def strsT:List D->Option (List (List Nat))
 | []=>some []
 | .str l::ds=>(strsT ds).map (l :: ·)
 | _=>none
def uc(d:D):Option D:=match d with
 | .lst ds=>match strsT ds with
  |some l=>if l.length<4000/\l≠[]/\(l.foldl stepT []).length<64 then some (.lst ((jE l).map .str)) else none
  |none=>none
 | _=>none
def ud:List D->Option D
 | [d]=>uc d
 | _=>none
theorem Rps.strsT{K:Frag}{F:Hp}{f:List Addr}:∀{ds:List D}{xs:List V}{l:List (List Nat)},Rps K F f xs ds->L2.strsT ds=some l->xs=(l.map S).map V.str
 | [],xs,l,h,e=>by cases e;exact h
 |d::ds,xs,l,h,e=>by
  obtain⟨x,j,rfl,h3,h4⟩:=h.un
  cases d with
  |str t =>
   unfold L2.strsT at e
   cases q:L2.strsT ds with
   |none=>rw[q] at e;cases e
   |some  =>
    rw[q] at e;cases e;rw[Rps.strsT h4 q];rw[h3];rfl
  | _=>cases e
theorem Rps.ofStrs{K:Frag}{F:Hp}{d:List Addr}:∀l:List (List Nat),Rps K F d ((l.map S).map V.str) (l.map D.str)
 | []=>Rps.nil
 |x::l=>Rps.cons (show Rp K F d (V.str (S x)) (.str x) from rfl) (Rps.ofStrs l)
variable {md:List Md}{P:Pt}
def Zt  {p1 q1 G t:Pos}   (I:X.calm=true)(Z:X.mg "sorted" = none)(Y:X.mg "set" = none)(ha:AE X md P ms [e] ma)(hg1:Gl X "sorted":=by rfl)(hg2:Gl X "set":=by rfl)
  (he:starEach [e] X.env=(false,eval e X.env)::starEach [] X.env:=by exact bM rfl) (U:(backTo t (starEach [] X.env)).any (·.1)=false:=by exact cB rfl)
  (C:starEach [Expr.Call (.Name "set" G) [e] [] t] X.env=(false,eval (Expr.Call (.Name "set" G) [e] [] t) X.env)::starEach [] X.env:=by exact bM rfl) (E:(backTo q1 (starEach [] X.env)).any (·.1)=false:=by exact cB rfl):
  OE X md P (.Call (.Name "sorted" p1) [.Call (.Name "set" G) [e] [] t] [] q1) (aU ud ma):=by
 have hin:PE X (.Call (.Name "set" G) [e] [] t) _:=rT (Zo I) hg2 Y (by decide +kernel) ha (by decide) (by decide) he U
 refine(wB (Zr I) hg1 Z (by decide +kernel) (dY hin fC C) (by decide) (by decide) C E).imp λσ H Q q=>?_
 obtain⟨ρ,O,F,as,d,O',r,s,e,k⟩:=q;obtain⟨ds,O1,e1,e⟩:=Res.bind_ok e;split at e
 ·rename_i y j;cases e;refine⟨ρ,_,F,as,_,_,r,s,e1,λvs H1 F1 as1 g1 J hv=>?_⟩;have u:=hv.lks J
  generalize hds:ds.map (aV O')=es at j u
  unfold ud at j;split at j
  ·rename_i d0;obtain⟨v,rfl,T⟩:=u.one;unfold uc at j;split at j
   ·rename_i ds0;split at j
    ·rename_i l hl;split at j
     ·rename_i f;cases j;obtain⟨p,xs,rfl,h1,h2⟩:=T.list J.fh;have R:=Rps.strsT h2 hl;subst R;refine⟨p,l.map S,rfl,h1.sq,by rw[zf];exact f.1,λa L=>?_⟩
      have W:(l.map S).foldl eO []≠[]:=λz=>by
       have m:=t7 l [];rw[zX,z] at m
       cases hq:l.foldl stepT [] with
       |nil =>
        cases l with
        |nil=>exact f.2.1 rfl
        |cons x l' =>
         have:=(t8 x (x::l') []).mpr (.inr zd)
         rw[hq] at this;cases this
       |cons x l'=>rw[hq] at m;cases m
      refine⟨a,_,rfl,bx,W,?_,λb ss' hp hs hB=>?_⟩
      ·have m:=t7 l [];rw[zX] at m;rw[m,zf];exact f.2.2
      ·rw[Zm hp hs];refine km (J.lay L) (λv' H' F' g' r' hw=>k v' H' F' as1 (g1.trans ((Gr.lay L).trans g')) r' (fD _ _ _ _ _ _ _ (λc I=>?_) hw)) hB (Rps.ofStrs _);refine g1.dm c ?_
       rcases Decidable.em (c=a) with z | z
       ·rw[z];exact L
       ·rwa [aD z] at I
     ·cases j
    ·cases j
   ·cases j
  ·cases j
 ·cases e
end
structure Zu(mg:Str->Option Value):Prop extends Gw mg where
 set_:mg "set" = none
end L2
namespace L2
open PySem PySem.Spec PyProof.Rows
def qi(mo m:M D):MS:=λρ O=>match mo ρ O with
 | .ok (.ob n) O1=>match O1[n]? with
  |some (.ml _)=>match m ρ O1 with
   | .ok d O2=>match O2[n]?,aV O2 d with
    |some (.ml ds),.lst es=>if ds.length+es.length<=1000000 then .nx ρ (O2.set n (.ml (ds++es))) else .no
    | _,_=>.no
   | _=>.no
  | _=>.no
 | _=>.no
def Zv{R:RR}  {apos f G:Pos}  (ho:VE X md P o mo)(h:SE X md P e m)
  (E:attributeBase o "extend" X.env (eval o X.env)=eval o X.env:=by rfl)
  (I:((backTo f (starEach [e] X.env)).all (λx=>!x.1)&&(backToKw f (keywordEach [] X.env)).all (λx=>x.1.isSome)&&decide ([e].length+([]:List Keyword).length+(if([]:List Keyword).isEmpty then 0 else 1)<30))=true:=by rfl)
  (C:(apos.endLine == f.line)=true:=by rfl) (hs:starEach [e] X.env=(false,eval e X.env)::starEach [] X.env:=by exact bM rfl) (j:(backTo f (starEach [] X.env)).any (·.1)=false:=by exact cB rfl)
  (W:swapsWith (.Call (.Attribute o "extend" apos) [e] [] f) none G.line X.env=pure false:=by rfl):
  VS X md P R (.Expr (.Call (.Attribute o "extend" apos) [e] [] f) G) (qi mo m):=
 (m9 (j4 PySem.F.plainAttrs_list PySem.F.slot_list_extend PySem.F.type_list_extend Gn ho (dY h fC hs) E I C hs j) W).imp λD σ H q=>by
  obtain⟨ρ,O,F,as,r,s,k⟩:=q;unfold qi at k;split at k
  ·rename_i n O1 e1;split at k
   ·rename_i ds0 e2;split at k
    ·rename_i d O2 e3;split at k
     ·rename_i ds es e4 e5;split at k
      ·rename_i hz;refine⟨ρ,O,F,as,_,_,r,s,e1,λv H1 F1 Y Q r1 hv=>?_⟩;obtain⟨a,rfl,ha⟩:=Rp.unO hv;obtain⟨U,x1,x2⟩:=r1.ml ha e2;refine⟨.inl ⟨rfl,U,.inl (.inl x1)⟩,ρ,O1,F1,Y,d,O2,r1,s.step Q,e3,λy H2 T u L J hy=>?_⟩;have t:=L.at_ n a ha;obtain⟨xs,y1,y2⟩:=J.ml t e4;have ly:=Sv.lk hy J;rw[e5] at ly;obtain⟨b,Z,rfl,w1,w2⟩:=ly.list J.fh;have g3:Gr H2 T u (upd H2 a (.lst (xs++Z))) T u:=qd (zJ t) y1;exact⟨a,b,xs,Z,rfl,rfl,y1,w1,by rw[y2.length,w2.length];exact d8 hz,k σ _ T u ((Q.trans L).trans g3).toS (J.mutO t (Rps.append w2 y2)) (s.step ((Q.trans L).trans g3))⟩
      ·exact False.elim k
     ·exact False.elim k
    ·exact False.elim k
   ·exact False.elim k
  ·exact False.elim k
noncomputable def iC(n L:Nat)(g:MG)(t:M Bool)(m:M D):Nat->aK->au->List D->Res (List D)
 | 0,ρ,O,acc=>match O[n]? with
  |some (.ml es)=>if es.length=L then .ok acc O else .no
  | _=>.no
 |k+1,ρ,O,acc=>match O[n]? with
  |some (.ml es)=>match es[L - (k+1)]? with
   |some d=>match g d ρ with
    |none=>.no
    |some f=>match t f O with
     | .ok true O1=>match m f O1 with
      | .ok y O2=>iC n L g t m k f O2 (acc++[y])
      | _=>.no
     | .ok false O1=>iC n L g t m k f O1 acc
     | _=>.no
   |none=>.no
  | _=>.no
def qj(m:M D)(own:Nat)(cap:List Nat)(g:MG)(t:M Bool)(e:M D):M D:=λρ O=>(m ρ O).bind λd f=>match d with
 | .ob n=>match f[n]? with
  |some (.ml ds)=>if ds.length<=1000000 then(iC n ds.length g t e ds.length (dM own cap ρ) f []).bind λj u=>.ok (.lst j) u else .no
  | _=>.no
 | _=>.no
def Zw{K:Frag}        (hcap:∀j∈cap,j<md.length)    (q:tM K mg md P (rO K) (qj m own.length cap g t e) σ H Q):
  sJ (CW K (tM K mg md P (rV K) m)) own cap (xMG K mg (cMd own.length cap md) g) (xMT K mg (cMd own.length cap md) t) (xM K mg (cMd own.length cap md) (rV K) e) σ H Q:=by
 obtain⟨ρ,O,F,as,d,OZ,r,s,G,k⟩:=q;obtain⟨d1,O1,e1,G⟩:=Res.bind_ok G;split at G
 ·rename_i n;split at G
  ·rename_i C e2;split at G
   ·rename_i hz;obtain⟨yf,O2,e3,G⟩:=Res.bind_ok G;cases G;refine⟨ρ,_,F,as,_,_,r,s,e1,λv H1 F1 W g1 r1 hv=>?_⟩;obtain⟨a,rfl,ha⟩:=Rp.unO hv;obtain⟨xs0,x1,x2⟩:=r1.ml ha e2;have sb:=Fo (own:=own) (s.step g1) hcap
    refine⟨a,rfl,⟨xs0,.inl (.inl x1)⟩,λi k Z σ' H'=>k=C.length - i/\i<=C.length/\∃L Y I f u,Gr H1 F1 W H' I f/\RlO K mg Y H' I f/\SlO K (cMd own.length cap md) (Pt.all H1) L σ' H' I f/\Rps K I f Z u/\u.length<=i /\
     iC n C.length g t e (C.length - i) L Y u=.ok yf OZ,⟨C.length,by simp,Nat.zero_le _,dM own.length cap ρ,O1,F1,W,[],Gr.refl,r1,sb,Rps.nil,zc _,by rw[Nat.sub_zero];exact e3⟩,?_⟩
    rintro i kk Z σ' H' ⟨rfl,hi,L,Y,I,f,u,g',r',s',hy,hl,ec⟩;have ha':=g'.at_ n a ha
    by_cases hlt:i<C.length
    ·rw[show C.length - i=(C.length - (i+1))+1 by omega] at ec;unfold iC at ec;split at ec
     ·rename_i es ee;obtain⟨xs,y1,y2⟩:=r'.ml ha' ee;rw[show C.length - (C.length - (i+1)+1)=i by omega] at ec;split at ec
      ·rename_i d' ed;obtain⟨x,hx,rx⟩:=y2.get' ed;have hsq:SqL K H' a xs:=.inl (.inl y1)
       refine .inr ⟨⟨xs,x,hsq,hx⟩,?_,λZ σ2 H2=>∃ρ2 O3 F2 R J,Gr H1 F1 W H2 F2 R/\RlO K mg O3 H2 F2 R/\SlO K (cMd own.length cap md) (Pt.all H1) ρ2 σ2 H2 F2 R/\Rps K F2 R Z J/\J.length<=i+1 /\
        iC n C.length g t e (C.length - (i+1)) ρ2 O3 J=.ok yf OZ,λys2 σ2 H2 h2=>⟨C.length - (i+1),by omega,rfl,hlt,h2⟩,λx' H3 y=>?_⟩
       ·rw[hy.length]
        have:=d8 hz
        omega
       obtain⟨rfl,hyy⟩:=y;have hxx:=hyy xs hsq;rw[hx] at hxx;cases hxx;split at ec
       ·cases ec
       ·rename_i E eg;refine⟨_,L,Y,I,f,d',E,r',s',rx,eg,λσ4 s4=>?_⟩;split at ec
        ·rename_i O4 et;refine⟨_,E,Y,I,f,true,O4,r',s4,et,λH5 F5 U T r5=>?_⟩;dsimp only;rw[if_pos rfl];split at ec
         ·rename_i yd O6 em;refine⟨_,E,O4,F5,U,yd,O6,r5,s4.step T,em,λvy H7 F7 as7 g7 r7 hvy=>?_⟩;exact⟨E,O6,F7,as7,u++[yd],(g'.trans T).trans g7,r7,(s4.step T).step g7,((hy.gr T).gr g7).snoc hvy,by rw[ze];show u.length+1<=i+1;omega,ec⟩
         ·cases ec
        ·rename_i O4 et;refine⟨_,E,Y,I,f,false,O4,r',s4,et,λH5 F5 U T r5=>?_⟩;dsimp only;rw[if_neg zA];exact⟨E,O4,F5,U,u,g'.trans T,r5,s4.step T,hy.gr T,by omega,ec⟩
        ·cases ec
      ·cases ec
     ·cases ec
    ·have hi':i=C.length:=by omega
     subst hi';rw[Nat.sub_self] at ec;unfold iC at ec;split at ec
     ·rename_i es ee;split at ec
      ·rename_i hle;cases ec;obtain⟨xs,y1,y2⟩:=r'.ml ha' ee;refine .inl ⟨⟨xs,.inl (.inl y1),by rw[y2.length,hle];exact zc _⟩,?_,λp X=>?_⟩
       ·rw[hy.length];exact zN hl (d8 hz)
       ·have hF:I p=none:=by
         cases q:I p with
         |none=>rfl
         |some o=>rw[r'.fh p o q] at X;cases X
        exact k _ _ I f ((g1.trans g').trans (Gr.lay X)) (r'.lay X) (.inr ⟨p,Z,yf,rfl,rfl,bx,hF,λz=>r'.all z X,(g1.trans g').dm p X,hy⟩)
      ·cases ec
     ·cases ec
   ·cases G
  ·cases G
 ·cases G
def Zx{u:Pos}(d:Scope)(f own:List Str)(cap:List Nat)(L:X.calm=true)(G:VE X md P O mi)
  (I:∀C s H ex P,VG (bG X scope C (bD f own cap) s H ex) (cMd own.length cap md) P T g) (F:∀C s H ex P,VIf (bG X scope C (bD f own cap) s H ex) (cMd own.length cap md) P Q t)
  (J:∀C s H ex P,VE (bG X scope C (bD f own cap) s H ex) (cMd own.length cap md) P R e)
  (m:∀j∈cap,j<md.length:=by decide) (y:X.env.scope=d:=by rfl) (E:X.N=f:=by rfl) (ok:j7 d f scope own cap=true:=by decide +kernel) (hs:∀x,foldedSetIterable O X.env x=pure x:=by intro _;rfl):
  OE X md P (.ListComp R [⟨T,O,Q,0⟩] scope u) (qj mi own.length cap g t e):=
 (Ej d f own cap L (vU G) (λC s H ex=>xmg (I C s H ex)) (λC s H ex=>xmt (F C s H ex)) (λC s H ex=>xm (J C s H ex)) y E ok hs).imp λ_ _ _ q=>Zw m q
end L2
namespace L2
open PySem PySem.Spec PyProof.Rows PySem.W
inductive CXE (Pr:Program) (w:World) (outer:List Env) (H:Hp) (s:Shared) (E:XK) (e:Value) (s':Shared):Prop
 | mk:∀(ea C:Addr) (H':Hp) (B:Heap) (a0:Value),e=.ref ea->s'.os=s.os->AllBare s'.gens->Un (frs outer) [] H H' s.heap s'.heap->HOk Pr w H' s'.heap->Heap.FlyingW B outer ea (.ref C) a0 s'.heap->(∀b u,H' b=some u->∃o,B.get? b=some o)->(∀b o,s.heap.get? b=some o->b∉frs outer->∃o',B.get? b=some o')->E (.ref C) none H'->CXE Pr w outer H s E e s'
noncomputable def msN(m:MS):MS:=λρ O=>match m ρ O with
 | .ex _ _=>.no
 |f=>f
def bmV:List Value:=[.type "ValueError",.type "Exception",.type "BaseException",.type "object"]
inductive Zy (P:Program) (w:World) (K:Frag) (mg:Str->Option Value) (base:Heap) (x:Str) (ps:List Str) (k:Nat) (sp:Sp):Prop
 | mk:∀f fd,mg x=some (.ref f)->keepIn K (.ref f)=true->Binds K fd ps []->cz P w K mg base (CXE P w) k f fd ps sp->(∃oc od osl,K.lookup f=some ⟨oc,od,.func fd,osl⟩)->Zy P w K mg base x ps k sp
def Zz(K:Frag)(mg:Str->Option Value)(R:RR)(H F:Hp)(t:List Addr)(Q:VK)(E:XK):Res D->Prop
 | .ok d O'=>∀v j m f,Gr H F t j m f->RlO K mg O' j m f->R (λa=>H a=none) j m f v d->Q v j
 | .ex x O'=>∀C j m f,mg x.cls=some (.ref C)->Gr H F t j m f->RlO K mg O' j m f->E (.ref C) none j
 | .no=>False
inductive ZC (K:Frag) (mg:Str->Option Value) (pm:List Md) (R:RR) (c:List D->au->Res D) (vs:List V) (H:Hp) (Q:VK) (E:XK):Prop
 | mk:∀ds O F as,RlO K mg O H F as->bN K H F as pm vs ds->Zz K mg R H F as Q E (c ds O)->ZC K mg pm R c vs H Q E
end L2
namespace L2
open PySem PySem.Spec PyProof.Rows PySem.W PySem.Calls PySem.Builtin PySem.Builtin.ObjectAttr PySem.Builtin.Getset_descriptor
structure QEy(K:Frag)(C:Addr):Prop where
 ga:findIn K (.ref C) "__getattribute__" = some (some (.builtin "BaseException.__getattribute__"))
 na:findIn K (.ref C) "__getattr__" = some none
 ca:findIn K (.ref C) "__class__" = some (some (.builtin "object.__class__"))
 sp:specialIn K (.builtin "object.__class__") "__get__" = some (some (.builtin "getset_descriptor.__get__"))
 tk:takesIn K (.builtin "object.__class__")=some true
 ob:mroIn K C (.type "object")=some true
 be:mroIn K C (.type "BaseException")=some true
 cl:(clsIn K C).isSome=true
def HX(a C:Addr)(h:Heap):Prop:=∃o,h.get? a=some o/\o.cls=.ref C
end L2
namespace L2
open PySem PySem.Spec PyProof.Rows PySem.W
end L2
namespace L2
open PySem PySem.Spec PyProof.Rows
end L2
namespace L2
open PySem PySem.Spec PyProof.Rows PySem.W
inductive CXF (Pr:Program) (w:World) (outer:List Env) (H:Hp) (s:Shared) (E:XK) (e:Value) (s':Shared):Prop
 | mk:∀(ea C:Addr) (H':Hp) (B:Heap) (a0:Value) (dxo:Option Addr),e=.ref ea->s'.os=s.os->AllBare s'.gens->Un (frs outer) [] H H' s.heap s'.heap->HOk Pr w H' s'.heap->Heap.FlyingW B outer ea (.ref C) a0 s'.heap->(∀b u,H' b=some u->∃o,B.get? b=some o)->(∀b o,s.heap.get? b=some o->b∉frs outer->∃o',B.get? b=some o')->(∃oe,s'.heap.get? ea=some oe/\oe.dict=dxo)->E (.ref C) dxo H'->CXF Pr w outer H s E e s'
inductive ZD (P:Program) (w:World) (K:Frag) (mg:Str->Option Value) (base:Heap) (x:Str) (ps:List Str) (k:Nat) (sp:Sp):Prop
 | mk:∀f fd,mg x=some (.ref f)->keepIn K (.ref f)=true->Binds K fd ps []->cz P w K mg base (CXF P w) k f fd ps sp->(∃oc od osl,K.lookup f=some ⟨oc,od,.func fd,osl⟩)->ZD P w K mg base x ps k sp
inductive ZF (P:Program) (w:World) (K:Frag) (mg:Str->Option Value) (base:Heap) (c m:Str) (ps:List Str) (k:Nat) (sp:Sp):Prop
 | mk:∀C f fd,mg c=some (.ref C)->Cls K C->nu K C m f->Binds K fd ps []->cz P w K mg base (CXF P w) k f fd ps sp->ZF P w K mg base c m ps k sp
def ZG(K:Frag)(mg:Str->Option Value)(R:RR)(H F:Hp)(u:List Addr)(Q:VK)(E:XK):Res D->Prop
 | .ok d O'=>∀v j m f,Gr H F u j m f->RlO K mg O' j m f->R (λa=>H a=none) j m f v d->Q v j
 | .ex x O'=>∀C t j m f,mg x.cls=some (.ref C)->Gr H F u j m f->RlO K mg O' j m f->XF K m f t x.fs->E (.ref C) t j
 | .no=>False
inductive ZJ (K:Frag) (mg:Str->Option Value) (pm:List Md) (R:RR) (c:List D->au->Res D) (vs:List V) (H:Hp) (Q:VK) (E:XK):Prop
 | mk:∀ds O F as,RlO K mg O H F as->bN K H F as pm vs ds->ZG K mg R H F as Q E (c ds O)->ZJ K mg pm R c vs H Q E
end L2
namespace L2
open PySem PySem.Spec PyProof.Rows PySem.W PySem.Builtin PySem.Builtin.ObjectAttr
def ZK(K:Frag)(C:Addr)(d:List Value)(newId:String)(f:Addr):Bool:=match K.lookup C with
 |some ⟨.type "type",_,.cls cd,sl⟩=>(match cd.mro,sl.toList with
  | .ref C'::bm,[_,_,_,_,some (.builtin n),_]=>C' == C&&n == newId && !cd.hasDel&&tailIn K d bm&&nsOkIn K cd.ns&&nsIn K cd.ns "__init__" == some (some (.ref f))&&cd.hasDict
  | _,_=>false)
 | _=>false
def ZL(C t:Addr)(d:Option Addr):Obj:={cls:=.ref C,dict:=d,data:=.fields #[.ref t,.none,.none,.none,.bool false,.none]}
def xoK(C t f:Addr)(d:Option Addr):HO:=.ext λh=>h.get? f=some (ZL C t d)
def spI(C:Addr)(name:Str):Sp:=λvs H Q _=>∃d t v,vs=[.ref d,v]/\H d=some (xoK C t d none)/\∀f j,H f=none->f≠d->Q .non (upd (upd H f (.frz j (.xd [(name,v)]))) d (xoK C t d (some f)))
structure ZM(K:Frag)(C fI:Addr)(name:Str):Prop where
 cl:ZK K C bmV "ValueError.__new__" fI=true
 sa:findIn K (.ref C) "__setattr__" = some (some (.builtin "object.__setattr__"))
 na:findIn K (.ref C) name=some none
 ob:mroIn K C (.type "object")=some true
inductive ZP (P:Program) (w:World) (K:Frag) (mg:Str->Option Value) (base:Heap) (c name:Str) (k:Nat):Prop
 | mk:∀(C fI:Addr) (fd:FuncData) (ps:List Str),mg c=some (.ref C)->ZM K C fI name->isFn K (.ref fI)=true->Binds K fd ps []->cz P w K mg base CX0 k fI fd ps (spI C name)->ZP P w K mg base c name k
end L2
namespace L2
open PySem PySem.Spec PyProof.Rows PySem.W
end L2
namespace L2
open PySem PySem.Spec PyProof.Rows PySem.W PySem.Calls PySem.Builtin PySem.Builtin.ObjectAttr
end L2
namespace L2
open PySem PySem.Spec PyProof.Rows PySem.W
def ZQ(A:Around):Around:={A with handled:=none}
structure ZR(P:Program)(w:World)(K:Frag)(mg:Str->Option Value)(base:Heap)(k:Nat)(f:Addr)(fd:FuncData)(ps:List Str)(sp:Sp):Prop where
 len:∀vs H Q E,sp vs H Q E->vs.length=ps.length
 run:∀(A:Around) (outer:List Env) (s:Shared) (H:Hp) (args:Args) (us:List Value) (vs:List V) (Q:VK) (E:XK),aW k (ZQ A)->iW P w K mg base A outer s H->BindsTo s fd args (ps.zip us)->aF vs us->sp vs H Q E ->
  codeAny (model P w) A (.call (.ref f) args) (CR CX0 outer P w H s Q E) s
inductive ZW (P:Program) (w:World) (K:Frag) (mg:Str->Option Value) (base:Heap) (x:Str) (ps:List Str) (k:Nat) (sp:Sp):Prop
 | mk:∀f fd,mg x=some (.ref f)->keepIn K (.ref f)=true->Binds K fd ps []->ZR P w K mg base k f fd ps sp->(∃oc od osl,K.lookup f=some ⟨oc,od,.func fd,osl⟩)->ZW P w K mg base x ps k sp
inductive ZX (P:Program) (w:World) (K:Frag) (mg:Str->Option Value) (base:Heap) (c:Str) (ps:List Str) (k:Nat) (sp:Sp):Prop
 | mk:∀C f fd,mg c=some (.ref C)->Mk K C f->Binds K fd ps []->cz P w K mg base (CXF P w) k f fd ps sp->ZX P w K mg base c ps k sp
end L2
namespace L2
open PySem PySem.Spec PyProof.Rows PySem.W PySem.Calls
structure QEz(mg:Str->Option Value):Prop extends Blt mg where
 any_:mg "any" = none
end L2
namespace L2
open PySem PySem.Spec PyProof.Rows PySem.W
structure QD1(P:Program)(w:World)(K:PySem.W.Frag)(mg:Str->Option Value)(base:Heap)(k:Nat)(f:Addr)(fd:FuncData)(ps:List Str)(sp:Sp):Prop where
 len:∀vs H Q E,sp vs H Q E->vs.length=ps.length
 run:∀(A:Around) (outer:List Env) (s:Shared) (H:Hp) (args:Args) (us:List Value) (vs:List V) (Q:VK) (E:XK),aW k A->iW P w K mg base A outer s H->BindsTo s fd args (ps.zip us)->aF vs us->sp vs H Q E ->
  codeAny (model P w) A (.call (.ref f) args) (λr s'=>1<=s'.toks/\CR CX0 outer P w H s Q E r s') s
structure ZT(h:Heap)(z TI TO i1 i2 l1 l2 k1 k2:Nat)(xs ys:Array Value):Prop where
 z:IsZip h z TI TO .none
 ti:IsPair h TI (.ref i1) (.ref i2)
 to:∃a b,IsPair h TO a b
 h1:h.IsTupleIter i1 l1 k1
 h2:h.IsTupleIter i2 l2 k2
 t1:h.IsTuple l1 xs
 t2:h.IsTuple l2 ys
abbrev KN(K:Frag)(H:Hp):List (NK×V)->List (NK×Addr×Value)->Prop:=Paired λp q=>p.1=q.1/\NAt K H p.1 q.2.1/\RelV p.2 q.2.2
def KN.val{K:Frag}    (r:KN K H kvs xs)(k:NK):dq (dz kvs k) ((atKey xs k).map (·.2)):=by
 induction r with
 |nil=>exact True.intro
 | @cons p q ps qs h t ih =>
  obtain⟨h1,_,h2⟩:=h
  by_cases e:p.1=k
  ·have e' :=h1.symm.trans e
   have b:atKey (q::qs) k=some q.2:=by simp[atKey,e']
   rw[nC e,b];exact h2
  ·have e':¬q.1=k:=λz=>e (h1.trans z)
   have b:atKey (q::qs) k=atKey qs k:=by simp[atKey,e']
   rw[nD e,b];exact ih
def KN.repl{K:Frag}    (r:KN K H kvs xs)(k:NK)   (f:RelV y u):
  KN K H (kvs.map λd=>if d.1=k then(d.1,y) else d) (xs.map (putAt k u)):=by
 induction r with
 |nil=>exact .nil
 | @cons p q ps qs h t ih =>
  rw[zg];refine .cons ?_ ih;obtain⟨h1,h2,h3⟩:=h;unfold putAt
  by_cases e:p.1=k
  ·rw[if_pos e,if_pos (h1.symm.trans e)];exact⟨h1,h2,f⟩
  ·rw[if_neg e,if_neg λz=>e (h1.trans z)];exact⟨h1,h2,h3⟩
def KN.put{K:Frag}    (r:KN K H j xs)(k:NK)    (hb:NAt K H k b)(d:RelV y u):
  KN K H (putK j k y) (storedH xs k b u):=by
 have e:(j.any λf=>decide (f.1=k))=(atKey xs k).isSome:=by
  rw[wG,(r.val k).isSome_eq,Option.isSome_map]
 unfold putK storedH;rw[e]
 by_cases q:(atKey xs k).isSome=true
 ·rw[if_pos q,if_pos q];exact r.repl k d
 ·rw[if_neg q,if_neg q];exact Paired.snoc r ⟨rfl,hb,d⟩
def KN.keeps{K:Frag}    (r:KN K H f xs)(d:∀b ys,H b=some (.tup ys)->j b=some (.tup ys)):KN K j f xs :=
 Paired.mapP r λ_ _ z=>⟨z.1,z.2.1.mono d,z.2.2⟩
def xP{K:Frag}  (ok:HOk P w H h)(kin:K.In h)(e:NAt K H k a):(m8 P w).is h k a:=by
 obtain⟨c,J,f⟩:=e;obtain⟨_,L,r,o,h1,h2,n,h3⟩:=(ok a _ J);have r' :=r
 cases r' with
 | @cons _ u _ us r1 r2 =>
  cases r2 with
  | @cons _ u2 _ us2 r3 r4 =>
   cases r4;obtain rfl :=r3;refine⟨o,_,n,u,c,h1,h2,h3,by simp,nF r1,?_⟩
   rcases f with f | ⟨y,j,E,l1,I,l3,l4,G⟩
   ·obtain⟨_,d,q,C,x,t,F,m⟩:=(ok c _ f);exact⟨C,d.toArray,F,x,t,m,by simpa using su q⟩
   ·exact⟨y,j,E,kin _ _ l1,I,l3,su G⟩
def xQ{K:Frag}  (ok:HOk P w H h)(kin:K.In h)(e:Rd H a (.dN K u)):u.length<=sizeLine/\(a == sysModules)=false /\
  ∃xs,KN K H u xs/\h.DictOfH (m8 P w) a xs:=by
 obtain⟨z,y,xs,r,o,f,j,h1,h2,h3,h4,d⟩:=(wH ok e);refine⟨z,y,xs,r,o,f,j,h1,h2,h3,h4,λx hx=>?_,d⟩
 have all:∀{l}{m},KN K H l m->∀x∈m,(m8 P w).is h x.1 x.2.1:=by
  intro l m q
  induction q with
  |nil=>intro x hx;exact nomatch hx
  | @cons p q ps qs hq t ih =>
   intro x hx
   rcases zk.mp hx with e | hx
   ·subst e;exact xP ok kin (by rw[<-hq.1];exact hq.2.1)
   ·exact ih x hx
 exact all r x hx
def Ha   {A:Around}(d:A.units+6<cLine):(m8 P w).room A.in1:=by
 show A.units+1+4<cLine;omega
def n6   (d:aW k A):A.units+6<cLine:=Nat.lt_of_le_of_lt (Nat.add_le_add_left (by decide) _) d.units
def xR(K:Frag)(H:Hp)(a:Addr)(y:V)(r:Option V):Prop:=∃d k b,Rd H a (.dN K d)/\y=.ref b/\NAt K H k b/\r=dz d k
def ZZ{σ:St}  (C:A.units+6<cLine)(I:Inv X R σ H s)(g:xR X.K H a y (some v))(t:RelV y u)(h:∀d m,Inv X R σ H m->RelV v d->Q d m):
  wpAny (model X.prog X.w) A (getItem (.ref a) u) Q E s:=by
 obtain⟨O,k,b,e,G,J,l⟩:=g;subst G;cases(t);obtain⟨z,hd,P,rel,L⟩:=xQ I.hok I.kIn e;obtain⟨d,x,f⟩:=dq.some_of (by rw[l];exact rel.val k);obtain⟨p,F,j⟩:=jt.mp x;refine wpAny_getItem_heap (Ha C) (xP I.hok I.kIn J) L F ?_;rw[j];exact h d _ (I.tok _) f
def Z0{σ:St}(I:Inv X j σ H s)(g:xR X.K H a y o):∃ob,s.heap.get? a=some ob/\ob.cls=.type "dict":=by
 obtain⟨d,k,b,e,l⟩:=g;obtain⟨_,_,f,_,ob,_,_,h1,h2,_⟩:=xQ I.hok I.kIn e;exact⟨ob,h1,h2.1⟩
def Z1{σ:St}     (y:A.units+6<cLine)(I:Inv X U σ H s)(e:H a=some (.dN X.K T))(t:NAt X.K H k b)(l:T.length<sizeLine)(x:RelV v r)(h:∀f,Inv X U σ (upd H a (.dN X.K (putK T k v))) f->Q () f):
  wpAny (model X.prog X.w) A (setItem (.ref a) (.ref b) r) Q E s:=by
 obtain⟨z,hd,u,rel,L⟩:=xQ I.hok I.kIn (.inl e)
 have P:u.length<=sizeLine:=by rw[<-Paired.length rel];exact z
 have C:(putK T k v).length<=sizeLine:=by have:=sr T k v;omega
 refine wpAny_setItem_heap (Ha y) (xP I.hok I.kIn t) L λR d hs=>h _ ?_
 obtain⟨q,G,J,j,h2,h3,h4,_,F⟩:=d;refine wJ I (by rw[e];exact True.intro) hs ⟨q,j⟩ ⟨C,hd,_,(rel.put k t x).keeps λc O m=>?_,q,G,J,j,h2,h3,h4,F⟩;rw[aD (ne_of m e λz=>nomatch z)];exact m
def Z2(K:Frag)(f ty:TE):TE:=λσ H Q=>f σ H λx j=>ty σ j λy d=>∃a v,x=.ref a/\xR K d a y (some v)/\Q v d
def Z3(K:Frag)(m ty j:TE):TS:=λD σ H=>j σ H λv u=>m σ u λx t=>ty σ t λy f=>∃a d k b,x=.ref a/\y=.ref b/\f a=some (.dN K d)/\NAt K f k b/\d.length<sizeLine/\D.nx σ (upd f a (.dN K (putK d k v)))
def Z4(K:Frag):TE:=λ_ H Q=>∀p,H p=none->Q (.ref p) (upd H p (.dN K []))
def Z5(f:X.A.units+6<cLine)(j:PE X o G)(m:PE X i ty)(hs:wK i):PE X (.Subscript o i J) (Z2 X.K G ty):=by
 intro pins s σ H Q I h;refine Eb PySem.F.slot_dict_getitem.lookup hs (thn (j _ s σ H _ I h) λu s1 ⟨x,H1,I1,rx,q1⟩=>thn (m _ s1 σ H1 _ I1 q1) λiv s2 ⟨y,H2,I2,ry,a,v,ex,g,q2⟩=>?_);subst ex;obtain rfl :=rx;exact⟨Z0 I2 g,ZZ f I2 g ry λC E t d=>⟨v,H2,t,d,q2⟩⟩
def Z6(d:X.A.units+6<cLine)(f:PE X o J)(j:PE X i ty)(hv:PE X C G)(hs:swapsWith C (some (.Subscript o i E)) F.line X.env=pure false):
  PS X (.Assign [.Subscript o i E] C F) (Z3 X.K J ty G):=by
 intro pins s σ H D I h;refine wpAny_Assign_Subscript (thn (hv _ s σ H _ I h) λr s1 ⟨v,H1,I1,rv,q1⟩=>thn (f _ s1 σ H1 _ I1 q1) λu s2 ⟨x,H2,I2,rx,q2⟩=>thn (j _ s2 σ H2 _ I2 q2) λiv s3 ⟨y,H3,I3,ry,a,kvs,k,b,ex,ey,e,eb,l,q3⟩=>?_) hs;subst ex ey;obtain rfl :=rx;obtain rfl :=ry
 exact Z1 d I3 e eb l rv λt m=>⟨σ,_,m,q3⟩
def Z7:PE X (.Dict [] [] d) (Z4 X.K):=λpins s σ H Q I h =>
 wpAny_Dict_empty ⟨.ref _,_,I.laid (o:=.dN _ []) (λ_ _ q=>zo _ q) (zc _)
  (⟨Nat.zero_le _,beq_eq_false_iff_ne.mpr (Ne.symm (zp I.big)),[],.nil,_,#[],0,zy _ rfl,⟨rfl,rfl,rfl⟩,rfl,rfl,List.nodup_nil⟩),rfl,h _ (I.hok.fresh (zc _))⟩
section
variable {X:Cx}{pins:List (Addr×Obj)}{σ:List (Option V)}{H:Hp}{s:Shared}{a:Addr}{xs:List (NK×V)}{o:Obj}
def Inv.base0N(I:Inv X pins σ H s)(e:H a=some (.dN X.K xs)):∀o u,X.H₀ a≠some (.frz o u):=λo u z=>by
 have:=I.base.frzs a o u z
 rw[e] at this;cases this
def Inv.freezeN(I:Inv X pins σ H s)(e:H a=some (.dN X.K xs)):∃o,s.heap.get? a=some o/\Inv X pins σ (upd H a (.frz o (.dN X.K xs))) s:=by
 have hx:=I.hok a _ e
 obtain⟨o,d⟩:∃u,s.heap.get? a=some u:=by
  obtain⟨_,_,_,_,_,_,_,z,_⟩:=hx;exact⟨_,z⟩
 refine⟨o,d,I.reword (by rw[e];exact λz=>nomatch z) (by rw[e];exact λ_ z=>nomatch z) (by rw[e];exact λ_ z=>nomatch z) (by rw[e];exact λ_ z=>nomatch z) (I.base0N e) ⟨d,?_⟩⟩
 exact bU.stay hx (λ_ _ _ z=>z) (λc z=>by rw[aD (λq=>by rw[q,e] at z;cases z)];exact z) λc f z=>by rw[aD (λq=>by rw[q,e] at z;cases z)];exact z
def Inv.thawN(I:Inv X pins σ H s)(e:H a=some (.frz o (.dN X.K xs)))(d:∀o u,X.H₀ a≠some (.frz o u)):Inv X pins σ (upd H a (.dN X.K xs)) s:=by
 obtain⟨j,hx⟩:=(show bU X.prog X.w H s.heap a (.frz o (.dN X.K xs)) from I.hok a _ e);refine I.reword (by rw[e];exact λz=>nomatch z) (by rw[e];exact λ_ z=>nomatch z) (by rw[e];exact λ_ z=>nomatch z) (by rw[e];exact λ_ z=>nomatch z) d ?_
 exact bU.stay hx (λ_ _ _ z=>z) (λc z=>by rw[aD (λq=>by rw[q,e] at z;cases z)];exact z) λc f z=>by rw[aD (λq=>by rw[q,e] at z;cases z)];exact z
end
noncomputable def Hb(K:Frag)(a:Addr)(o:Obj):It :=
 ⟨λi H=>∃d:List (NK×V),H a=some (.frz o (.dN K d))/\i<d.length,
  λi H x f=>f=H/\∀d:List (NK×V),H a=some (.frz o (.dN K d))->∃b p,x=.ref b/\d[i]?=some p/\NAt K H p.1 b,
  λi H=>∃d:List (NK×V),H a=some (.frz o (.dN K d))/\d.length<=i⟩
def xT   {σ:St}      (I:Inv X G σ H s)(e:H a=some (.frz o (.dN X.K ys))):
  s.heap.get? a=some o/\(a == sysModules)=false/\o.ExactDict/\∃es ep,o.data=.dict es ep/\es.size=ys.length/\∀(i:Nat) (h:i<es.size),∃b p,es[i].key=.ref b/\ys[i]?=some p/\NAt X.K H p.1 b:=by
 obtain⟨h1,z,y,d,r,x,es,ep,h2,h3,h4,m,F⟩:=(I.hok a _ e);rw[h1] at h2;cases h2
 have E:es.size=d.length:=by rw[<-Array.length_toList,m,zf]
 have C :=r.length;refine⟨h1,y,h3,es,ep,h4,by omega,λi t=>?_⟩
 have hx:i<d.length:=by omega
 have j:i<ys.length:=by omega
 have f:es.toList[i]?=some (entryOfKey (m8 X.prog X.w) d[i]):=by rw[m,zC,zt];rfl
 rw[Array.getElem?_toList,Array.getElem?_eq_getElem t] at f;have u:=Gz r (zt j) (zt hx);refine⟨d[i].2.1,ys[i],?_,zt j,u.2.1⟩
 injection f with f
 rw[f];rfl
def Z8   {K:Frag}  (a it:Addr)(o:Obj)(es:Array DictEntry)(ep:Nat)(hd:o.data=.dict es ep):Turn P w K tg (Hb K a o) [it] it (λi h=>h.IsKeyIter it a i es.size ep) where
 mem:=by simp
 obj:=λi h st b hb=>by
  have e:b=it:=by simpa using hb
  subst e;obtain⟨o,e,c,d⟩:=st;exact⟨o,e,λv z=>by rw[d] at z;cases z⟩
 keep:=λi h h' st k=>st.at λo e=>k it (by simp) o e
 item:=by
  intro X hP hw hK hc i pins s σ H E I hf st hg;subst hP hw hK;obtain⟨ys,hq,hlt⟩:=hg;obtain⟨q1,q2,q3,es',ep',q4,q5,q6⟩:=xT I hq;rw[hd] at q4;cases q4;obtain⟨f0,f1,f2,f3,f4,f5⟩:=hf it (by simp)
  have hi:i<es.size:=by omega
  refine Yx st q1 hd rfl hi λh' st' sb=>?_
  have I1:Inv X pins σ H {s with heap:=h'}:=I.turned (t':=s.toks) (λb o hb e=>(sb.2 b hb).trans e) f0 f1 f3 f4 f5;obtain⟨b,p,k1,k2,k3⟩:=q6 i hi;rw[k1];obtain⟨o2,e,c,d⟩:=id st';refine⟨_,rfl,nj (s:={s with heap:=h'}) e c d (by decide) ⟨.ref b,H,I1,rfl,⟨rfl,λzs hz=>?_⟩,st',λb hb=>(hf b hb).1⟩⟩;rw[hq] at hz;cases hz;exact⟨b,p,rfl,k2,k3⟩
 done:=by
  intro X hP hw hK hc i pins s σ H E I hf st hg;subst hP hw hK;obtain⟨ys,hq,hge⟩:=hg;obtain⟨q1,q2,q3,es',ep',q4,q5,q6⟩:=xT I hq;rw[hd] at q4;cases q4;obtain⟨f0,f1,f2,f3,f4,f5⟩:=hf it (by simp)
  exact Yy (I.ok.hd hc) st q1 hd rfl (by omega) λh' eb=>⟨rfl,I.turned (t':=s.toks) (λb o hb e=>eb b o hb e) f0 f1 f3 f4 f5⟩
 self:=λ_ _ _ _ _ st h=>wpAny_pyIter_keyiter st h
def Z9(K:Frag)(tl:TE):TI:=λσ H R=>tl σ H λx f=>∃a d,x=.ref a/\f a=some (.dN K d)/\∀o,R (Hb K a o) (upd f a (.frz o (.dN K d)))
def Qz2    (y:PE X l tl):PI X O l (Z9 X.K tl):=by
 intro pins s σ H R I h
 refine thn (y _ s σ H _ I h) λv s1 ⟨x,H1,I1,r1,f⟩=>?_
 obtain⟨a,G,e,u,q⟩:=f;subst e;cases r1;obtain⟨o,L,d⟩:=I1.freezeN u;obtain⟨f,t,m,E,F,j,J⟩:=xT d bx;refine Yw t f m j ?_;refine⟨s1.heap.objs.size,[s1.heap.objs.size],_,_,upd H1 a _,rfl,d.kept λb o e=>zo _ e,Z8 a _ o E F j,⟨_,zy _ rfl,rfl,rfl⟩,λb C=>?_,q o⟩
 have e :=by simpa using C
 subst e;exact d.fpOk (zc _) (d.hok.fresh (zc _))
def valN(d:List (NK×D))(k:NK):Option D:=(d.find? λp=>decide (p.1=k)).map (·.2)
def putN(f:List (NK×D))(k:NK)(d:D):List (NK×D):=
 if(f.any λp=>decide (p.1=k))=true then f.map (λp=>if p.1=k then(p.1,d) else p) else f++[(k,d)]
def DnR(K:Frag)(F:Hp)(f:List Addr)(xs:List (NK×V))(d:List (NK×D)):Prop:=xs.map (·.1)=d.map (·.1)/\Rps K F f (xs.map (·.2)) (d.map (·.2))
def DnR.len{K:Frag}   (h:DnR K F f xs d):xs.length=d.length:=by
 have:=congrArg List.length h.1
 simpa
def DnR.un{K:Frag}    (h:DnR K F as xs (p::kvs)):∃v r,xs=(p.1,v)::r/\Rp K F as v p.2/\DnR K F as r kvs:=by
 obtain⟨h1,h2⟩:=h
 cases xs with
 |nil=>cases h1
 |cons x r =>
  obtain⟨v,m,e,j,f⟩:=h2.un;cases e;rw[zg,zg] at h1;have d:=(List.cons.inj h1).1;refine⟨x.2,r,?_,j,(List.cons.inj h1).2,f⟩;rw[<-d]
theorem DnR.val{K:Frag} :∀{f:List (NK×D)}{xs:List (NK×V)},DnR K F as xs f->(valN f k=none/\dz xs k=none)\/∃d v,valN f k=some d/\dz xs k=some v/\Rp K F as v d
 | [],xs,h=>by
  have:=h.len
  cases xs with
  |nil=>exact .inl ⟨rfl,rfl⟩
  |cons=>cases this
 |p::f,xs,h=>by
  obtain⟨v,r,rfl,h1,h2⟩:=h.un
  by_cases e:p.1=k
  ·exact .inr ⟨p.2,v,by simp[valN,e],nC e,h1⟩
  ·rw[show valN _ k=valN f k by simp[valN,e],nD e];exact DnR.val h2
theorem DnR.any{K:Frag} :∀{d:List (NK×D)}{xs:List (NK×V)},DnR K F as xs d->(xs.any λp=>decide (p.1=k))=d.any λp=>decide (p.1=k)
 | [],xs,h=>by
  have:=h.len
  cases xs with
  |nil=>rfl
  |cons=>cases this
 |p::d,xs,h=>by
  obtain⟨v,r,rfl,h1,h2⟩:=h.un;rw[List.any_cons,List.any_cons,DnR.any h2]
theorem DnR.repl{K:Frag}    (hv:Rp K F as v d):∀{f:List (NK×D)}{xs:List (NK×V)},DnR K F as xs f ->
  DnR K F as (xs.map λp=>if p.1=k then(p.1,v) else p) (f.map λp=>if p.1=k then(p.1,d) else p)
 | [],xs,h=>by
  have:=h.len
  cases xs with
  |nil=>exact⟨rfl,Rps.nil⟩
  |cons=>cases this
 |p::f,xs,h=>by
  obtain⟨u,r,rfl,h1,h2⟩:=h.un;obtain⟨m,j⟩:=DnR.repl hv h2
  by_cases e:p.1=k
  ·rw[zg,zg,if_pos e,if_pos e];exact⟨by rw[zg,zg,m],Rps.cons hv j⟩
  ·rw[zg,zg,if_neg e,if_neg e];exact⟨by rw[zg,zg,m],Rps.cons h1 j⟩
def DnR.put{K:Frag}   (h:DnR K F j xs f)(k:NK)   (hv:Rp K F j v d):DnR K F j (putK xs k v) (putN f k d):=by
 unfold putK putN;rw[h.any]
 split
 ·exact h.repl hv
 ·exact⟨by rw[zM,zM,h.1];rfl,by rw[zM,zM];exact Rps.snoc h.2 hv⟩
def RlO.dn{K:Frag}{n:Nat}   (r:RlO K mg O H F m)(d:m[n]?=some a)(f:O[n]?=some (.dn j)):∃xs,H a=some (.dN K xs)/\DnR K F m xs j:=let ⟨xs,h1,h2,h3⟩:=r.ob n a _ d f;⟨xs,h1,h2,h3⟩
def RlO.nf{K:Frag}{n:Nat}   (r:RlO K mg O H F m)(d:m[n]?=some a)(f:O[n]?=some (.nf j)):∃o xs,H a=some (.frz o (.dN K xs))/\DnR K F m xs j:=let ⟨o,xs,h1,h2,h3⟩:=r.ob n a _ d f;⟨o,xs,h1,h2,h3⟩
def ue:List D->Option (List Key)
 | []=>some []
 | .int i::ds=>(ue ds).map (Sum.inl i :: ·)
 | .str l::ds=>(ue ds).map (Sum.inr (S l) :: ·)
 | _=>none
def qm:D->Option NK
 | .tup [.int i,.tup ds]=>(ue ds).map λd=>(i,d)
 | _=>none
theorem Rps.keysN{K:Frag}{F:Hp}{j:List Addr}:∀{ds:List D}{xs:List V}{ks:List Key},Rps K F j xs ds->ue ds=some ks->xs=ks.map kV
 | [],xs,ks,h,e=>by cases e;exact h.un0
 | .int i::ds,xs,ks,h,e=>by
  obtain⟨x,r,rfl,h1,h2⟩:=h.un;obtain⟨f,d,rfl⟩:=jt.mp (e);rw[h1.unI,Rps.keysN h2 d];rfl
 | .str l::ds,xs,ks,h,e=>by
  obtain⟨x,r,rfl,h1,h2⟩:=h.un;obtain⟨f,d,rfl⟩:=jt.mp (e);rw[h1.unS,Rps.keysN h2 d];rfl
 | .non::ds,xs,ks,h,e=>by cases e
 | .bl _::ds,xs,ks,h,e=>by cases e
 | .lst _::ds,xs,ks,h,e=>by cases e
 | .tup _::ds,xs,ks,h,e=>by cases e
 | .dic _ _::ds,xs,ks,h,e=>by cases e
 | .ob _::ds,xs,ks,h,e=>by cases e
def Hc:List Value->Bool
 | [.int _ _,.ref _]=>true
 | _=>false
def kZ:Frag->Bool
 | []=>true
 |p::r=>(match p.2.data with
  | .seq its _=>!Hc its.toList
  | _=>true)&&kZ r
theorem Hd    :∀{K:Frag},kZ K=true->List.lookup a K=some o->o.data=.seq its n->Hc its.toList=false
 | [],_,h,_=>by cases h
 |p::r,hk,h,hd=>by
  unfold kZ at hk;rw[zD] at hk;rw[List.lookup_cons] at h;split at h
  ·cases h
   have:=hk.1
   rw[hd] at this;simpa
  ·exact Hd hk.2 h hd
def Rp.nkey{K:Frag}      (E:kZ K=true)(h:Rp K F U v d)(e:qm d=some k):∃b,v=.ref b/\NAt K F k b:=by
 unfold qm at e;split at e
 ·obtain⟨T,O,rfl⟩:=jt.mp e;obtain⟨b,Q,rfl,h1,h2⟩:=h.unT';obtain⟨x,r,rfl,h3,h4⟩:=h2.un;obtain⟨R,j,rfl,J,I⟩:=h4.un;obtain rfl:=I.un0;obtain⟨c,P,rfl,m,G⟩:=J.unT';have L:=G.keysN O;rw[h3.unI] at h1
  rcases h1 with h1 | ⟨o,f,n,l1,_,l3,_,C⟩
  ·refine⟨b,rfl,c,h1,?_⟩;rw[L] at m;exact m
  ·have q:=Hd E l1 l3;have l5' :=C
   generalize f.toList=y at q l5'
   cases l5' with
   | @cons _ u _ y r1 j =>
    cases j with
    | @cons _ u2 _ us2 r3 r4 =>
     cases r4;obtain⟨t,rfl⟩ :=r1;obtain rfl :=r3;cases q
 ·cases e
noncomputable def xU:M D:=λ_ O=>.ok (.ob O.length) (O++[.dn []])
def Qtr :VE X md P (.Dict [] [] t) xU:=Z7.imp λσ H Q q p f=>by
 obtain⟨ρ,O,F,j,d,m,r,s,e,k⟩:=q;cases e;refine k _ _ F _ (Gr.snoc f) ((r.lay f).snocO (r.unF f) (λz=>r.all z f) ⟨[],bx,rfl,Rps.nil⟩) (Rp.mkO ?_);rw[<-r.len,zL (zc _),Nat.sub_self];rfl
def gC(mo my f:M D):MS:=λρ O=>match f ρ O with
 | .ok d O1=>match mo ρ O1 with
  | .ok (.ob n) O2=>match my ρ O2 with
   | .ok y O3=>match qm y,O3[n]? with
    |some k,some (.dn kvs)=>if kvs.length<1000000 then .nx ρ (O3.set n (.dn (putN kvs k d))) else .no
    | _,_=>.no
   | _=>.no
  | _=>.no
 | _=>.no
def QwP  (hk:kZ X.K=true)(hr:aW kk X.A)    (ho:VE X md P o mo)(hi:VE X md P i my)(hv:VE X md P value mv)
  (hs:swapsWith value (some (.Subscript o i pos')) pos.line X.env=pure false:=by rfl):VS X md P R (.Assign [.Subscript o i pos'] value pos) (gC mo my mv):=
 (Z6 (n6 hr) ho hi hv hs).imp λD σ H q=>by
  obtain⟨ρ,O,F,as,r,s,k⟩:=q;unfold gC at k;split at k
  ·rename_i d O1 e1;split at k
   ·rename_i n O2 e2;split at k
    ·rename_i y O3 e3;split at k
     ·rename_i t kvs e4 e5;split at k
      ·rename_i hz;refine⟨ρ,O,F,as,_,_,r,s,e1,λv H1 F1 Q G r1 hv=>⟨ρ,O1,F1,Q,_,_,r1,s.step G,e2,λx H2 F2 L E r2 hx=>⟨ρ,O2,F2,L,_,_,r2,s.step (G.trans E),e3,λu Y I as3 C m hu=>?_⟩⟩⟩;obtain⟨a,rfl,ha⟩:=Rp.unO hx;have f:=C.at_ n a ha;obtain⟨j,U,T⟩:=m.dn f e5;obtain⟨b,rfl,hb⟩:=Rp.nkey hk hu e4;have J:=(hv).gr (E.trans C)
       have hl:j.length<sizeLine:=by rw[T.len];exact zK hz (by decide)
       have g4:Gr Y I _ (upd Y a (.dN X.K (putK j t v))) I _:=qd (zJ f) U;have W:=((G.trans E).trans C).trans g4;obtain⟨z1,Z⟩:=T.put t J;exact⟨a,j,t,b,rfl,rfl,U,hb.mono λc ys hc=>m.fh _ _ hc,hl,k σ _ I _ W.toS (m.mutG f ⟨_,bx,z1,Z⟩) (s.step W)⟩
      ·exact False.elim k
     ·exact False.elim k
    ·exact False.elim k
   ·exact False.elim k
  ·exact False.elim k
def nsG(n:Nat)(y:D)(O:au):Res D:=match qm y,O[n]? with
 |some k,some (.nf kvs)=>match valN kvs k with
  |some d=>.ok d O
  |none=>.no
 |some k,some (.dn kvs)=>match valN kvs k with
  |some d=>.ok d O
  |none=>.no
 | _,_=>.no
def eQ(mo my:M D):M D:=λρ O=>(mo ρ O).bind λx f=>match x with
 | .ob n=>(my ρ f).bind λy d=>nsG n y d
 | _=>.no
def QvT  (hk:kZ X.K=true)(hr:aW kk X.A)    (ho:VE X md P o mo)(hi:VE X md P i my)(hs:rY i:=by intro _ _;rfl):VE X md P (.Subscript o i pos) (eQ mo my):=
 (Z5 (n6 hr) ho hi hs).imp λσ H Q q=>by
  obtain⟨ρ,O,F,as,d,O',r,s,e,k⟩:=q;obtain⟨x,O1,e1,e⟩:=Res.bind_ok e
  cases x with
  |ob n =>
   obtain⟨y,O2,e2,e⟩:=Res.bind_ok e;unfold nsG at e;split at e
   ·rename_i W kvs e3 e4;split at e
    ·rename_i d' f;cases e;refine⟨ρ,_,F,as,_,_,r,s,e1,λx H1 F1 t G U hx=>⟨ρ,_,F1,t,_,_,U,s.step G,e2,λu H2 F2 as2 E m Y=>?_⟩⟩;obtain⟨a,rfl,ha⟩:=Rp.unO hx;obtain⟨o,J,R,L⟩:=m.nf (E.at_ n a ha) e4;obtain⟨b,rfl,hb⟩:=Rp.nkey hk Y e3
     rcases L.val with⟨j,C⟩ | ⟨d2,T,j,C,I⟩
     ·rw[j] at f;cases f
     ·rw[j] at f;cases f;exact⟨a,T,rfl,⟨J,W,b,.inr ⟨o,R⟩,rfl,hb.mono λc ys Z=>m.fh _ _ Z,C.symm⟩,k _ H2 F2 _ (G.trans E) m I⟩
    ·cases e
   ·rename_i W kvs e3 e4;split at e
    ·rename_i d' f;cases e;refine⟨ρ,_,F,as,_,_,r,s,e1,λx H1 F1 t G U hx=>⟨ρ,_,F1,t,_,_,U,s.step G,e2,λu H2 F2 as2 E m Y=>?_⟩⟩;obtain⟨a,rfl,ha⟩:=Rp.unO hx;obtain⟨J,R,L⟩:=m.dn (E.at_ n a ha) e4;obtain⟨b,rfl,hb⟩:=Rp.nkey hk Y e3
     rcases L.val with⟨j,C⟩ | ⟨d2,T,j,C,I⟩
     ·rw[j] at f;cases f
     ·rw[j] at f;cases f;exact⟨a,T,rfl,⟨J,W,b,.inl R,rfl,hb.mono λc ys Z=>m.fh _ _ Z,C.symm⟩,k _ H2 F2 _ (G.trans E) m I⟩
    ·cases e
   ·cases e
  | _=>cases e
def Hf{K:Frag}   (hb:H b=some (.tup xs))(hs:∃O,RlO K mg O H F as):∃d,Gr H F as H d as/\(∀O,RlO K mg O H F as->RlO K mg O H d as)/\d b=some (.tup xs):=by
 cases hF:F b with
 |some u =>
  obtain⟨j,f⟩:=hs
  have:=f.fh b u hF
  rw[hb] at this;cases this;exact⟨F,Gr.refl,λ_ r=>r,hF⟩
 |none=>exact⟨upd F b (.tup xs),Gr.tupF hb hF,λ_ r=>r.frz hb hF (r.noT hb) rfl,bx⟩
def Hg(p:NK×D):D:=.tup [.int p.1.1,.tup (p.1.2.map sU)]
def n8(m:M D):M (List D):=λρ O=>(m ρ O).bind λd f=>match d with
 | .ob n=>match f[n]? with
  |some (.dn kvs)=>.ok (kvs.map Hg) (f.set n (.nf kvs))
  | _=>.no
 | _=>.no
def QyD   (h:VE X md P e m):VI X md P tg e (n8 m):=(Qz2 h).imp λσ H Q q=>by
 obtain⟨ρ,O,F,as,ds,O',r,s,e,k⟩:=q;obtain⟨d,O1,e1,e⟩:=Res.bind_ok e;split at e
 ·split at e
  ·rename_i G e2;cases e;refine⟨ρ,_,F,as,_,_,r,s,e1,λv H1 F1 as1 g1 R hv=>?_⟩;obtain⟨a,rfl,u⟩:=Rp.unO hv;obtain⟨xs,L,j⟩:=R.dn u e2;refine⟨a,xs,rfl,L,λo=>k _ _ F1 _ (g1.trans (qd (zJ u) L)) (R.mutG u ⟨o,xs,bx,j.1,j.2⟩) ⟨λi d H2 F2 J C t hd=>?_,λH2 F2 J C t=>?_⟩⟩
   ·have hz:=C.kz a o _ bx
    have U :=by have:=(zu.mp hd).1;rwa [zf] at this
    have hi':i<xs.length:=by rw[j.len];exact U
    refine⟨⟨xs,hz,hi'⟩,λx H3 y=>?_⟩;obtain⟨rfl,hy⟩:=y;obtain⟨b,p,rfl,hp,hb⟩:=hy xs hz
    have T:p.1=G[i].1:=by
     have h1:(xs.map (·.1))[i]?=some p.1:=by rw[zC,hp];rfl
     rw[j.1,zC,zt] at h1
     injection h1 with h1
     exact h1.symm
    rw[zC,zt U] at hd
    injection hd with hd
    subst hd;obtain⟨c,I,f⟩:=hb;obtain⟨O2,E⟩:=id t;obtain⟨F3,Y,f3,Z⟩:=Hf I t
    rcases f with f | f
    ·obtain⟨F4,W,f4,e4⟩:=Hf f ⟨O2,f3 O2 E⟩;refine⟨F4,Y.trans W,λO r=>f4 O (f3 O r),b,_,rfl,.inl (W.ff _ _ Z),?_⟩;rw[<-T];exact Rps.cons (rfl) (Rps.cons ⟨c,_,rfl,.inl e4,tU _⟩ Rps.nil)
    ·refine⟨F3,Y,f3,b,_,rfl,.inl Z,?_⟩;rw[<-T];exact Rps.cons (rfl) (Rps.cons ⟨c,_,rfl,.inr f,tU _⟩ Rps.nil)
   ·exact⟨xs,C.kz a o _ bx,by rw[zf,j.len];exact zc _⟩
  ·cases e
 ·cases e
noncomputable def qp(i:Nat)(ms:MS):MS:=λρ O=>match ρ[i]? with
 |some (some (.ob n))=>match O[n]? with
  |some (.dn _)=>match ms ρ O with
   | .nx ρ2 O2=>match O2[n]? with
    |some (.nf kvs)=>.nx ρ2 (O2.set n (.dn kvs))
    | _=>.no
   | _=>.no
  | _=>.no
 | _=>.no
def GrS.reHN{K:Frag}    (g:GrS P H F m t x j)(f:a∈m)(hx:H a=some (.dN K xs)):GrS P H F m (upd t a h) x j :=
 ⟨g.fz,g.ff,g.nw,λc o p e d hd=>by rw[aD λz=>d (by rw[z];exact f)];exact g.fr c o p e d hd,λc e=>by
  by_cases z:c=a
  ·rw[z,bx] at e;cases e
  ·rw[aD z] at e;exact g.dm c e,λc o u e=>by rw[aD λz=>by rw[z,hx] at e;cases e];exact g.kz c o u e⟩
def Qtl(i:Nat){st:Stmt}  (h:VS X md P R st ms):VS X md P R st (qp i ms):=λpins s σ H D I q=>by
 obtain⟨ρ,O,F,G,r,sl,k⟩:=q;unfold qp at k;split at k
 ·rename_i n Z;split at k
  ·rename_i kv0 Y;split at k
   ·rename_i ρ2 O2 W;split at k
    ·rename_i kvs U;obtain⟨a,x⟩:=sl.obAt Z;obtain⟨xs0,C,_⟩:=r.dn x Y;have T:=I.base0N C
     refine thn (h _ s σ H {nx:=λd j=>∃m t,GrS P H F G j m _/\RlO _ _ O2 j m _/\SlO _ md P _ _ j m _,rt:=λ_ _=>False} I ⟨ρ,O,F,G,r,sl,by rw[W];exact λd j m t g r s=>⟨m,t,g,r,s⟩⟩) λf s' z=>?_
     cases f with
     |next =>
      obtain⟨d,j,I',m,t,g,E,Q⟩:=z;have ha':=g.at_ n a x;have hm':=zJ ha';obtain⟨o,L,J,y⟩:=E.nf ha' U;exact⟨d,_,I'.thawN J T,k _ _ m _ (g.reHN (zJ x) C) (E.mutG ha' ⟨L,bx,y.1,y.2⟩) (Q.reH hm')⟩
     | brk
     |cont=>obtain⟨d,j,_,z⟩:=z;exact z.elim
     |ret u=>obtain⟨v,d,j,_,_,z⟩:=z;exact z.elim
    ·exact False.elim k
   ·exact False.elim k
  ·exact False.elim k
 ·exact False.elim k
section
variable {X:Cx}{md:List Md}{P:Pt}{R:RR}
def Quz(i:Nat){c b:Expr}{x:Str}{p G m:Pos}{t:M Bool}{mb:M D}(hc:TsE X md P c t)(hb:OE X md P b mb)(hm:md[i]?=some .o:=by rfl)(hN:X.N[i]?=some x:=by rfl)(Z:Vis X.env.scope x:=by first | exact Or.inl rfl | exact Or.inr (Or.inl rfl) | exact Or.inr (Or.inr rfl))
  (hd:(x == ("__debug__":Str))=false:=by decide) (J:(x == ("__classdict__":Str))=false:=by decide):VS X md P (rO X.K) (.Return (some (.IfExp c (.Name x p) b G)) m) (aA (mIf t (aa i) mb)):=(vR (CQ hc (jY (i:=i) hN Z hd J) hb)).imp λD σ H q=>by
 obtain⟨ρ,O,F,as,r,s,k⟩:=q;unfold aA at k
 cases e:mIf t (aa i) mb ρ O with
 |ok d O' =>
  rw[e] at k;obtain⟨y,O1,E,e⟩:=Res.bind_ok e;refine⟨ρ,_,F,as,_,_,r,s,E,λH1 T j f Q=>?_⟩
  cases y with
  |true =>
   rw[if_pos rfl] at e ⊢;obtain⟨C,rfl⟩:=pR e;obtain⟨v,h1,h2⟩:=(s.step f).sl i .o d hm C;refine⟨v,h1,k v H1 T j f.toS Q ?_⟩
   rcases h2 with h2 | ⟨a,U,ds,E,C,e3,e0,e4,e5,e6⟩
   ·exact .inl h2
   ·exact .inr ⟨a,U,ds,E,C,e3,e0,e4,e5,e6⟩
  |false =>
   rw[if_neg zA] at e ⊢;exact⟨ρ,_,T,j,_,_,Q,s.step f,e,λW H2 F2 L g2 Y I=>k W H2 F2 L (f.trans g2).toS Y (fD _ _ _ _ _ _ _ (λa u p=>s.pd a p u) (fD _ _ _ _ _ _ _ (λa u=>f.dm a u) I))⟩
 |ex x O'=>rw[e] at k;exact False.elim k
 |no=>rw[e] at k;exact False.elim k
end
end L2
namespace L2
open PySem PySem.Spec PyProof.Rows
def qt(l:List Nat)(i:Int):List Nat:=l++List.replicate (i.toNat - l.length) 32
def Qy6(l:List Nat)(i:Int):Txt.ljust (S l) i=S (qt l i):=by
 unfold Txt.ljust qt;rw[gK]
 split
 ·rw[show i.toNat - l.length=0 by omega];simp
 ·unfold Builtin.Str.padded;simp[S]
def Qzj:V->List V->Hp->VK->Prop:=λx d H Q=>∃(l:List Nat) (i:Int),x=.str (S l)/\d=[.int i]/\-1000000<i/\i<1000000/\Q (.str (S (qt l i))) H
def Qtj:MtR X "str.ljust" Qzj:=by
 intro pins s σ H x E v F Q I f m h;obtain⟨l,i,rfl,rfl,h1,h2,q⟩:=h;obtain⟨a,rfl⟩:=f;obtain⟨u,rfl,j⟩:=vals1 m;obtain⟨b,rfl⟩:=j
 refine SC.ljust ?_ λd k=>⟨.str (S (qt l i)),H,I.tok _,⟨d,by rw[Qy6]⟩,q⟩
 unfold PadOk fitsSsize;have C:decide (i < -(2 ^ 63:Int))=false:=zq (by omega);have y:decide (i>=(2 ^ 63:Int))=false:=zq (by omega)
 have t:Builtin.Str.tooLong i.toNat=false:=by
  unfold Builtin.Str.tooLong;exact zq (by have:=sizeLine_eq;omega)
 rw[C,y,t];rfl
def uf(mo m:M D):M D:=λρ O=>(mo ρ O).bind λa f=>(m ρ f).bind λb d=>match a,b with
 | .str l,.int i=>if -1000000<i/\i<1000000 then .ok (.str (qt l i)) d else .no
 | _,_=>.no
def Qs5  {apos f:Pos}  (W:VE X md P o mo)(h:VE X md P e m)
  (y:attributeBase o "ljust" X.env (eval o X.env)=eval o X.env:=by rfl)
  (C:((backTo f (starEach [e] X.env)).all (λx=>!x.1)&&(backToKw f (keywordEach [] X.env)).all (λx=>x.1.isSome)&&decide ([e].length+([]:List Keyword).length+(if([]:List Keyword).isEmpty then 0 else 1)<30))=true:=by rfl)
  (t:(apos.endLine == f.line)=true:=by rfl) (hs:starEach [e] X.env=(false,eval e X.env)::starEach [] X.env:=by exact bM rfl) (j:(backTo f (starEach [] X.env)).any (·.1)=false:=by exact cB rfl):
  OE X md P (.Call (.Attribute o "ljust" apos) [e] [] f) (uf mo m):=
 (j4 PySem.F.plainAttrs_str PySem.F.slot_str_ljust PySem.F.type_str_ljust Qtj W (dY h fC hs) y C t hs j).imp λσ H Q q=>by
  obtain⟨ρ,O,F,as,d,O',r,s,e,k⟩:=q;obtain⟨a,O1,e1,e⟩:=Res.bind_ok e;obtain⟨b,O2,Z,e⟩:=Res.bind_ok e;split at e
  ·split at e
   ·rename_i I;cases e;refine⟨ρ,_,F,as,_,_,r,s,e1,λv H1 F1 G J R T=>?_⟩;cases Rp.unS T;refine⟨rfl,ρ,_,F1,G,_,_,R,s.step J,Z,λu H2 F2 E Y L U=>?_⟩;cases Rp.unI U;exact⟨_,_,rfl,rfl,I.1,I.2,k _ H2 F2 E (J.trans Y) L (.inl ⟨rfl,Rp.str⟩)⟩
   ·cases e
  ·cases e
end L2
namespace L2
open PySem PySem.Spec PyProof.Rows PySem.W
end L2
namespace L2
open PySem PySem.Spec PyProof.Rows PySem.W PySem.Calls
section
variable {prog:Program}{w:World}{A:Around}{E:Value->Shared->Prop}{s:Shared}
def Qyc      (hx:s.heap.get? a=some o)(y:o.cls=.type "list")(f:o.data=.seq xs k)(hd:o.dict=none)(I:A.handled=none)
  (h:∀h' tk,(∀b ob,s.heap.get? b=some ob->h'.get? b=some ob)->Q none {s with heap:=h',toks:=tk}):wpAny (model prog w) A (getAttr? (.ref a) "keys") Q E s:=by
 obtain⟨c,J,L,sl⟩:=o;simp only at y f hd;subst y f hd;obtain⟨G,g,d,tk,os⟩:=s
 have C:∀t,(⟨G,g,d,t,os⟩:Shared).TypeIs (.ref a) "list":=λ_=>⟨_,hx,rfl⟩
 have m:typeLookup (.type "list") "keys" = pure none:=am_miss_of_fast (by kernel_rfl)
 have j:(["__module__","__name__","__qualname__","__doc__","__annotations__"]:List Str).contains "keys" = false:=by decide
 have x:("keys":Str).length+100<=sizeLine:=by rw[sizeLine_eq];decide
 have T:=sub_AttributeError;have f3:=F.slot_list_getattribute.lookup;have f4:=F.slot_list_getattribute.bind (.ref a);have f5:=am_list_getattr_none;unfold getAttr? getAttrBy? getAttrBy
 repeat (any_goals (first | assumption | exact C _ | (refine call_meets F.slot_list_getattribute (C _) am_entry_list_getattribute (F.args_list_getattribute_2 _ _) (meets_getattribute_miss_list a xs k sl "keys" _ m j x) ⟨hx,I,λh' t e u=>?_⟩) | wp_step))
 obtain⟨P,O,R⟩:=u.there;show wpAny _ _ (getattributeRaised _ _ _ _ _ _ _) _ _ _;unfold getattributeRaised
 repeat (any_goals (first | assumption | wp_step))
 exact h _ _ u.keeps
def Hh:entryFor table "dict.update.loop" = some Builtin.«dict.update.loop»:=entryFor_of_tree (by kernel_rfl)
def ug:plainId "dict.update.loop" = true:=by decide +kernel
def pairs_at      (d:s.heap.get? a=some o)(f:o.cls=.type "tuple")(hd:o.data=.seq j m)(h:Q j.toList s):wpAny (model prog w) A (Builtin.Dict.pairItems (.ref a)) Q E s:=by
 refine za (wpAny_typeOf ⟨o,d,f⟩ ?_);refine za ?_;refine za (wpAny_load d ?_);rw[hd];exact zb (zb h)
theorem Hi:∀(more d:List (Key×Value)),(merged d more).length<=d.length+more.length
 | [],d=>zc _
 |p::r,d=>by
  have h1:=Hi r (stored d p.1 p.2)
  have h2:(stored d p.1 p.2).length<=d.length+1:=by
   unfold stored
   split
   ·rw[zf];omega
   ·rw[ze,zR];omega
  show(merged (stored _ _ _) r).length<=_;rw[zw];omega
def Qpa{R:Result->Shared->Prop}{I:Addr}{fp t:List Addr}{G:Array GenState->Array GenState->Prop}{n:Nat}{Pv:Nat->Value->Prop}{St:Nat->Shared->Prop}(W:WalksS prog w A.in1 I fp t G n Pv St)(S:Addr)(T:S∉fp)(h0:Heap)(prs:List (Key×Value×Value))(hl:prs.length=n)(hz:n<=1000000)
  (hit:∀i v p,Pv i v->prs[i]?=some p->∃a o x m,v=.ref a/\a≠S/\a∉t/\h0.get? a=some o/\o.cls=.type "tuple"/\o.data=.seq x m/\x.toList=[p.2.1,p.2.2]/\(cJ prog w).is p.1 p.2.1=true):
  ∀(k i:Nat) (s:Shared),n - i=k->i<=n->St i s->(∀b o,b≠S->b∉t->h0.get? b=some o->s.heap.get? b=some o)->s.heap.DictOf (cJ prog w) S (merged [] ((prs.take i).map λp=>(p.1,p.2.2))) ->
   (∀d,Moved (S::t) G s d->d.heap.DictOf (cJ prog w) S (merged [] (prs.map λp=>(p.1,p.2.2)))->R (.ok (.ret .none)) d) ->
   ∀j:Int,codeAny (model prog w) A (.builtin "dict.update.loop" ⟨[.ref S,.ref I,.int j 0,.none],[]⟩) R s:=by
 have Q:S∉t:=λh=>T (W.sub _ h)
 have f:∀b∈t,b∈S::t:=λb F=>zm _ F
 intro k
 induction k with
 |zero =>
  intro i s hk hi y hold hD hR j
  have hin:i=n:=by omega
  subst hin;refine jc Hh ?_;rw[Around.under_plainId ug _];show wpAny _ A.in1 (pyNext (.ref I) >>= _) _ _ s;refine za (W.done s _ _ y λd u=>?_);show wpAny _ A.in1 (Builtin.Dict.addKeywords S [] >>= _) _ _ d;refine za (zb (zb (hR d (u.mono f) ?_)));rw[<-hl,List.take_length] at hD;obtain⟨o,es,ep,g1,g2⟩:=hD;exact⟨o,es,ep,u.heap S _ Q g1,g2⟩
 |succ k ih =>
  intro i s hk hi y hold hD hR j
  have J:i<n:=by omega
  have hp:=zt (l:=prs) (i:=i) (by omega);refine jc Hh ?_;rw[Around.under_plainId ug _];show wpAny _ A.in1 (pyNext (.ref I) >>= _) _ _ s;refine za (W.item i s _ _ J y λv d hP U u=>?_);obtain⟨a,o,x,m,rfl,ha1,P,ho,hc,hd,hi2,Y⟩:=hit i v _ hP hp;have ho':d.heap.get? a=some o:=u.heap a o P (hold a o ha1 P ho)
  have hD':d.heap.DictOf (cJ prog w) S (merged [] ((prs.take i).map λp=>(p.1,p.2.2))):=by
   obtain⟨o,es,ep,g1,g2⟩:=hD;exact⟨o,es,ep,u.heap S _ Q g1,g2⟩
  dsimp only;refine za (zS (za (wpAny_tryCatch (pairs_at ho' hc hd ?_))));rw[hi2];dsimp only;refine zS (wpAny_dictSet_pairs Y hD' (λh' hD2 C=>?_) ?_)
  ·refine zb ⟨plainId_quiet ug _,ih (i+1) _ (by omega) J (W.frame _ d _ _ U (Nat.le_succ _) λb F o e=>?_) (λb o O L e=>?_) ?_ (λs'' X Z=>?_) _⟩
   ·rw[C.2 b (λh:b=S=>T (by rw[<-h];exact F))];exact e
   ·show h'.get? b=some o;rw[C.2 b O];exact u.heap b o L (hold b o O L e)
   ·rw[List.take_add_one,hp]
    have e:merged [] ((prs.take i++(some prs[i]).toList).map λp=>(p.1,p.2.2))=stored (merged [] ((prs.take i).map λp=>(p.1,p.2.2))) prs[i].1 prs[i].2.2:=by
     rw[Option.toList_some,zM];unfold merged;rw[List.foldl_append];rfl
    rw[e];exact hD2
   ·refine hR s'' (Moved.trans W.gtrans ((u.mono f).then_heap (Nat.le_succ _) λb o F e=>?_) X) Z;rw[C.2 b (λh:b=S=>F (by rw[h];exact zd))];exact e
  ·have:=Hi ((prs.take i).map λp=>(p.1,p.2.2)) []
   rw[zf,List.length_take,je] at this;rw[sizeLine_eq];omega
set_option maxHeartbeats 8000000 in
def Qqi   {prs:List (Key×Value×Value)}  (X:A.handled=none)(I:s.heap.get? l=some (seqObj "list" items 0)\/∃c,s.heap.get? l=some (seqObj "list" items c))(hn:prs.length=items.size)(hz:items.size<=1000000)
  (P:∀(i:Nat) (v:Value) (p:Key×Value×Value),items[i]?=some v->prs[i]?=some p->∃(a:Addr) (o:Obj) (f:Array Value) (m:Nat),v=.ref a/\s.heap.get? a=some o/\o.cls=.type "tuple"/\o.data=.seq f m/\f.toList=[p.2.1,p.2.2]/\(cJ prog w).is p.1 p.2.1=true)
  (h:∀h' tk,h'.DictOf (cJ prog w) s.heap.objs.size (merged [] (prs.map λp=>(p.1,p.2.2)))->(∀b o,s.heap.get? b=some o->h'.get? b=some o)->Q (.ref s.heap.objs.size) {s with heap:=h',toks:=tk}):
  wpAny (model prog w) A (call (.type "dict") [.ref l]) Q E s:=by
 obtain⟨c,I⟩:∃c,s.heap.get? l=some (seqObj "list" items c):=by
  rcases I with h | h
  ·exact⟨0,h⟩
  ·exact h
 refine callType_codes (Q₁:=λobj t=>obj=.ref s.heap.objs.size/\t = {s with heap:=s.heap.push _}) F.kt_called_dict (F.kt_typeCall_dict_1 _) F.entry_dict_init (kt_code_dict_new _ ⟨rfl,rfl⟩) ?_;rintro obj t ⟨rfl,rfl⟩;have d:(s.heap.push _).DictOf (cJ prog w) s.heap.objs.size []:=Heap.DictOf.new s.heap;have u:(s.heap.push {cls:=.type "dict",data:=.dict #[]}).get? l=some (seqObj "list" items c):=zo _ I;refine⟨d.typeIs,F.args_dict_init_2 _ _,?_⟩;refine za ?_;refine za (wpAny_notOrdered_dict d.typeIs ?_);refine zb ?_;show wpAny _ _ (Builtin.Dict.updateFrom "dict.__init__" s.heap.objs.size (.ref l) [] .none) _ _ _
 refine za (wpAny_typeOf (T:="list") ⟨_,u,rfl⟩ ?_);refine za (Qyc u rfl rfl rfl (by simp[X]) λh' tk keep=>?_);rw[if_pos (by rfl)];refine za (zW ?_);have y:=keep _ _ u;refine za (wpAny_pyIter_list ⟨_,y,rfl,c,rfl⟩ ?_);have j :=zl (keep _ _ (zy _ rfl));have x:l<s.heap.objs.size:=zl I;refine zb ⟨plainId_quiet ug _,?_⟩;have C:l≠h'.objs.size:=zp (Nat.lt_trans x j)
 have R:s.heap.objs.size∉[h'.objs.size,l]:=by
  simp only[zk,zh,List.not_mem_nil,or_false,not_or];exact⟨zp j,Nat.ne_of_gt x⟩
 have O:h'.IsList l items:=⟨_,y,rfl,c,rfl⟩;refine Qpa ((Walks.list (by simp[X]) _ l C items).toS) s.heap.objs.size R h' prs hn hz (λi v p hv hp=>?_) (items.size - 0) 0 _ (by omega) (Nat.zero_le _) ⟨⟨_,zy _ rfl,rfl,rfl⟩,O.push _⟩ (λb o _ _ e=>zo _ e) ?hD (λs' G U=>?hR) _
 ·obtain⟨a,o,f,m,rfl,W,hc,hd,hi,hk⟩:=P i v p hv hp;have Z:=zl W;refine⟨a,o,f,m,rfl,zp Z,?_,keep _ _ (zo _ W),hc,hd,hi,hk⟩;rw[zh];exact zp (Nat.lt_trans Z j)
 case hD =>
  obtain⟨o,es,ep,g1,g2⟩:=d;exact⟨o,es,ep,zo _ (keep _ _ g1),g2⟩
 case hR =>
  obtain⟨h3,g3,d3,J,L⟩:=s';have eg:g3=s.gens:=G.gens;have ed:d3=s.drawn:=G.drawn;have eo:L=s.os:=G.os;subst eg;subst ed;subst eo;refine⟨rfl,h h3 J U λb o e=>?_⟩;have Y:=zl e;exact G.heap b o (by simp only[zk,zh,List.not_mem_nil,or_false,not_or];exact⟨zp Y,zp (Nat.lt_trans Y j)⟩) (zo _ (keep _ _ (zo _ e)))
end
def oh(K:Frag)(H:Hp):List V->List (Key×V)->Prop
 |ys,[]=>ys=[]
 |ys,p::r=>∃b d,ys=.ref b::d/\SqT K H b [kV p.1,p.2]/\oh K H d r
def QxA(K:Frag):List V->Hp->VK->Prop:=λj H Q=>∃a f d,j=[.ref a]/\RdK K H a f/\oh K H f d/\d.length<=1000000/\∀l,H l=none->Q (.ref l) (upd H l (.dK (j5 [] d)))
theorem oh.prs{pins:List (Addr×Obj)}{σ:St}{H:Hp}{s:Shared}(I:Inv X pins σ H s):∀{j:List (Key×V)}{ys:List V}{d:List Value},oh X.K H ys j->aF ys d->∃prs:List (Key×Value×Value),prs.length=d.length/\j.length=d.length/\KV j (prs.map λp=>(p.1,p.2.2)) /\
  ∀(i:Nat) (v:Value) (p:Key×Value×Value),d[i]?=some v->prs[i]?=some p->∃(a:Addr) (o:Obj) (t:Array Value) (m:Nat),v=.ref a/\s.heap.get? a=some o/\o.cls=.type "tuple"/\o.data=.seq t m/\t.toList=[p.2.1,p.2.2]/\(cJ X.prog X.w).is p.1 p.2.1=true
 | [],ys,d,h,r=>by
  cases(show ys=[] from h);cases r;exact⟨[],rfl,rfl,.nil,λi v p e=>by cases e⟩
 |q::j,ys,d,h,r=>by
  obtain⟨b,L,rfl,h1,h2⟩:=h
  cases r with
  | @cons _ u _ us a1 r =>
   cases(show u=Value.ref b from a1);obtain⟨prs,G,F,E,C⟩:=oh.prs I h2 r;obtain⟨t,f,⟨o,e,J,n,hd⟩,_⟩:=I.tuple h1
   cases f with
   | @cons _ k' _ _ a2 f =>
    cases f with
    | @cons _ v' _ _ a3 f =>
     cases f;refine⟨(q.1,k',v')::prs,by rw[zw,zw,G],by rw[zw,zw,F],.cons ⟨rfl,a3⟩ E,λi v p y x=>?_⟩
     cases i with
     |zero =>
      cases y;cases x;exact⟨b,o,_,n,rfl,e,J,hd,rfl,nF a2⟩
     |succ i=>exact C i v p y x
def Qqh(G:X.calm=true):cZ X (.type "dict") (QxA X.K):=by
 intro pins s σ H U W Q I r h;obtain⟨a,T,d,rfl,J,E,F,q⟩:=h;obtain⟨u,rfl,f⟩:=vals1 r;cases f;obtain⟨_,R,n,j,e⟩:=J.ok I;obtain⟨prs,y,x,t,m⟩:=E.prs I j
 refine Qqi (I.ok.hd G) (.inr ⟨n,e⟩) (by rw[y,zI]) (by rw[zI,<-x];exact F) (λi v p P O=>m i v p (by simpa using P) O) λY tk hD k=>?_
 have C:(j5 [] d).length<=sizeLine:=by
  have h1:=Ed d [];rw[je] at h1;rw[sizeLine_eq];omega
 have L :=beq_eq_false_iff_ne.mpr (Nat.ne_of_gt I.big);exact⟨.ref _,_,I.laid k (zc _) (Ea C L (t.merge .nil) hD),rfl,q _ (I.hok.fresh (zc _))⟩
def mq:List D->Option (List (Key×D))
 | []=>some []
 |d::r=>match d,mq r with
  | .tup [k,v],some l=>(keyOf k).map λf=>(f,v)::l
  | _,_=>none
def uh(d:List (Key×D)):List (Key×D):=d.foldl (λf p=>cX f p.1 p.2) []
theorem Hj{K:Frag}{F H:Hp}{t:List Addr}(fh:Same F H):∀{ds:List D}{ys:List V}{f:List (Key×D)},Rps K F t ys ds->mq ds=some f->∃xs,oh K H ys xs/\DkR K F t xs f
 | [],ys,f,h,e=>by
  cases e;exact⟨[],h.un0,rfl,Rps.nil⟩
 |d::ds,ys,f,h,e=>by
  obtain⟨y,j,rfl,h1,h2⟩:=h.un;unfold mq at e;split at e
  ·rename_i k v l q
   cases hk:keyOf k with
   |none=>rw[hk] at e;cases e
   |some k' =>
    rw[hk] at e;cases e;obtain⟨xs,x,m⟩:=Hj fh h2 q;obtain⟨a,J,rfl,a1,a2⟩:=h1.unT;obtain⟨L,zr,rfl,I,G⟩:=a2.un;obtain⟨u,zr,rfl,E,C⟩:=G.un;cases C.un0;cases I.key hk;exact⟨(k',u)::xs,⟨a,j,rfl,Same.seqT fh a1,x⟩,by rw[zg,zg,m.1],Rps.cons E m.2⟩
  ·cases e
theorem DkR.merge{K:Frag}{F:Hp}{j:List Addr}:∀{d:List (Key×D)}{xs:List (Key×V)}{ks:List (Key×D)}{f:List (Key×V)},DkR K F j xs d->DkR K F j f ks->DkR K F j (j5 f xs) (d.foldl (λacc p=>cX acc p.1 p.2) ks)
 | [],xs,ks,f,h,g=>by
  have:=h.len
  cases xs with
  |nil=>exact g
  |cons=>cases this
 |p::d,xs,ks,f,h,g=>by
  obtain⟨v,r,rfl,h1,h2⟩:=h.un;have q:=DkR.merge h2 (g.put p.1 h1);exact q
def DkR.gr{K:Frag}     (h:DkR K F j xs d)(g:Gr H F j t m f):DkR K m f xs d:=⟨h.1,h.2.gr g⟩
def um(ma:M (List D)):M D:=λρ O=>(ma ρ O).bind λj f=>match j.map (aV f) with
 | [.lst es]=>match mq es with
  |some d=>if d.length<=1000000 then .ok (.ob f.length) (f++[.dk (uh d)]) else .no
  |none=>.no
 | _=>.no
def QuB  {Z R:Pos}   (hc:X.calm=true)(G:X.mg "dict" = none)(ha:AE X md P ms [e] ma)(I:Gl X "dict":=by rfl)
  (he:starEach [e] X.env=(false,eval e X.env)::starEach [] X.env:=by exact bM rfl) (E:(backTo R (starEach [] X.env)).any (·.1)=false:=by exact cB rfl):VE X md P (.Call (.Name "dict" Z) [e] [] R) (um ma):=by
 refine(rT (Qqh hc) I G (by decide +kernel) ha (by decide) (by decide) he E).imp λσ H Q q=>?_
 obtain⟨ρ,O,F,as,d,O',r,s,e,k⟩:=q;obtain⟨ds,O1,e1,e⟩:=Res.bind_ok e;refine⟨ρ,_,F,as,_,_,r,s,e1,λvs U u f g1 j hv=>?_⟩;have m:=hv.lks j
 generalize hds:ds.map (aV O1)=es at e m
 split at e
 ·rename_i ds0;obtain⟨v,rfl,C⟩:=m.one;split at e
  ·rename_i y hj;split at e
   ·rename_i hlen;cases e;obtain⟨p,W,rfl,h1,h2⟩:=C.list j.fh;obtain⟨x,Y,L⟩:=Hj j.fh h2 hj;refine⟨p,W,x,rfl,h1,Y,by rw[L.len];exact hlen,λl t=>?_⟩;have T:Gr U u f (upd U l (.dK (j5 [] x))) u (f++[l]):=Gr.snoc t;have J:DkR X.K u (f++[l]) (j5 [] x) (uh y):=(L.merge ⟨rfl,Rps.nil⟩).gr T;refine k _ _ u (f++[l]) (g1.trans T) ((j.lay t).snocO (j.unF t) (λz=>j.all z t) ⟨_,bx,J.1,J.2⟩) (Rp.mkO ?_);rw[<-j.len,zL (zc _),Nat.sub_self];rfl
   ·cases e
  ·cases e
 ·cases e
end L2
namespace L2
open PySem PySem.Spec PyProof.Rows PySem.W PySem.Builtin PySem.Builtin.Str
end L2
namespace L2
open PySem PySem.Spec PyProof.Rows PySem.W
def mkD{K:Frag}  {st:Stmt}     {kV:Value}(X:K.In h)(G:h.Ns mainGlobals mg)(a:nsIn K mainGlobals x=some (some (.ref f)))(l:K.lookup f=some ⟨t,m,.func (fnOf x x (cP st) (bY st) (aO st) .none kV dc j u d ct),sl⟩)(c:codeIn K d x=true)(k:keepIn K (.ref f)=true):Def K mg x st:=⟨_,_,mg_of X G a,DY l c k⟩
structure ClsAt(K:Frag)(c:Str)(A:Addr):Prop where
 ns:nsIn K mainGlobals c=some (some (.ref A))
 pg:plainGet K A Str.empty=true
 hd:hasDictIn K A=true
 po:plainOver K A=true
 sa:findIn K (.ref A) "__setattr__" = some (some (.builtin "object.__setattr__"))
 mks:makesIn K A=true
 kc:keepIn K (.ref A)=true
def MethAt(K:Frag)(A:Addr)(m qual:Str)(st:Stmt):Prop:=∃f fd,findIn K (.ref A) m=some (some (.ref f))/\isFn K (.ref f)=true/\keepIn K (.ref f)=true/\Fun K m qual st f fd
def mkM{K:Frag}   {st:Stmt}     {kV:Value}(a:findIn K (.ref A) m=some (some (.ref f)))(i:isFn K (.ref f)=true)(l:K.lookup f=some ⟨x,u,.func (fnOf m d (cP st) (bY st) (aO st) .none kV dc t y j ct),sl⟩)(c:codeIn K j d=true)(k:keepIn K (.ref f)=true):MethAt K A m d st:=⟨_,_,a,i,k,DY l c k⟩
def ClsAt.cl{K:Frag}(z:ClsAt K c A):Cls K A:=⟨z.pg,z.hd,z.po,z.sa⟩
def ClsAt.dm{K:Frag}(z:ClsAt K c A)(X:K.In h)(G:h.Ns mainGlobals mg)  {st:Stmt}(q:MethAt K A m j st):cD K mg c m j st:=by
 obtain⟨f,fd,a,i,k,d⟩:=q;exact⟨_,_,_,mg_of X G z.ns,z.cl,⟨a,i,k⟩,d⟩
def ClsAt.dc{K:Frag}(z:ClsAt K c A)(X:K.In h)(G:h.Ns mainGlobals mg)  {st:Stmt}(q:MethAt K A "__init__" j st):nU K mg c j st:=by
 obtain⟨f,fd,a,i,k,d⟩:=q;exact⟨_,_,_,mg_of X G z.ns,⟨z.mks,a,i,z.kc⟩,d⟩
def ClsAt.kf{K:Frag}(z:ClsAt K c A)(X:K.In h)(G:h.Ns mainGlobals mg)  (n:findIn K (.ref A) f=some none):KC K mg c f:=⟨_,mg_of X G z.ns,z.cl,n⟩
def xV(K:Frag)(mg:Str->Option Value)(x:Str)(st:Stmt)(m:Array Value):Prop:=∃(f:Addr) (C:Value) (y:Option Addr) (T:Addr) (kV t u:Value) (E:Option Addr) (d ct:Value) (j:Array (Option Value)) (o:Obj) (n:Nat),
 mg x=some (.ref f)/\K.lookup f=some ⟨C,y,.func (fnOf x x (cP st) (bY st) (aO st) (.ref T) kV t u E d ct),j⟩/\codeIn K d x=true/\keepIn K (.ref f)=true/\K.lookup T=some o/\o.data=.seq m n
def QCX{K:Frag}   {st:Stmt}     {kV:Value}   (X:K.In h)(G:h.Ns mainGlobals mg)(a:nsIn K mainGlobals x=some (some (.ref f)))(l:K.lookup f=some ⟨y,u,.func (fnOf x x (cP st) (bY st) (aO st) (.ref T) kV dc m C j ct),sl⟩)(c:codeIn K j x=true)(k:keepIn K (.ref f)=true)(t:K.lookup T=some ⟨F,E,.seq d n,tl⟩):xV K mg x st d :=
 ⟨f,y,u,T,kV,dc,m,C,j,ct,sl,_,n,mg_of X G a,l,c,k,t,rfl⟩
end L2
namespace L2
open PySem PySem.Spec PyProof.Rows
def QwR     (h:AE X md P (List.replicate es.length .v) es r):VE X md P (.Tuple es f d) (aX r):=Ve _ h
def QwH    (h:AE X md P (List.replicate es.length .v) es r):OE X md P (.List es d) (bJ r):=Vd _ h
def Que{X:Cx}{md:List Md}{P:Pt}   {d:Pos}  (h:tO X.K X.mg x ls)(j:m=mC (.tup (ls.map D.str)):=by rfl)(t:Gl X x:=by rfl)(f:(x == ("__debug__":Str))=false:=by decide):VE X md P (.Name x d) m:=j ▸ Yh h t f
def xW{K:Frag}(N H F d):rV K N H F d .non .non:=Rp.non
def QC2{K:Frag}(N H F d):rO K N H F d .non .non:=.inl ⟨rfl,Rp.non⟩
end L2
namespace L2
open PySem PySem.Spec PyProof.Rows PySem.W
def xX(K:Frag)(mg:Str->Option Value)(c qual:Str)(st:Stmt)(m:Array Value):Prop:=∃(C f:Addr) (y:Value) (x:Option Addr) (T:Addr) (kV t u:Value) (E:Option Addr) (d ct:Value) (j:Array (Option Value)) (o:Obj) (n:Nat),
 mg c=some (.ref C)/\Mk K C f/\K.lookup f=some ⟨y,x,.func (fnOf "__init__" qual (cP st) (bY st) (aO st) (.ref T) kV t u E d ct),j⟩/\codeIn K d qual=true/\K.lookup T=some o/\o.data=.seq m n
inductive uo (P:Program) (w:World) (K:Frag) (mg:Str->Option Value) (base:Heap) (c:Str) (ps:List Str) (ds:List Value) (k:Nat) (sp:Sp):Prop
 | mk:∀C f fd,mg c=some (.ref C)->Mk K C f->Binds K fd ps []->Binds K fd ps ds->cz P w K mg base CX0 k f fd ps sp->uo P w K mg base c ps ds k sp
section
variable {Pr:Program}{w:World}{K:Frag}{mg:Str->Option Value}{base:Heap}
def MethAtD(K:Frag)(A:Addr)(qual:Str)(st:Stmt)(m:Array Value):Prop:=∃(f:Addr) (y:Value) (x:Option Addr) (T:Addr) (kV t u:Value) (C:Option Addr) (d ct:Value) (j:Array (Option Value)) (o:Obj) (n:Nat),
 findIn K (.ref A) "__init__" = some (some (.ref f))/\isFn K (.ref f)=true/\K.lookup f=some ⟨y,x,.func (fnOf "__init__" qual (cP st) (bY st) (aO st) (.ref T) kV t u C d ct),j⟩/\codeIn K d qual=true/\K.lookup T=some o/\o.data=.seq m n
def QCH{K:Frag}   {st:Stmt}     {kV:Value}
  (a:findIn K (.ref A) "__init__" = some (some (.ref f))) (i:isFn K (.ref f)=true) (l:K.lookup f=some ⟨y,x,.func (fnOf "__init__" d (cP st) (bY st) (aO st) (.ref T) kV dc u C m ct),sl⟩) (e:codeIn K m d=true) (t:K.lookup T=some ⟨F,E,.seq j n,tl⟩):MethAtD K A d st j :=
 ⟨f,y,x,T,kV,dc,u,C,m,ct,sl,_,n,a,i,l,e,t,rfl⟩
def ClsAt.dcd{A:Addr}{c:Str}(z:ClsAt K c A){h:Heap}(X:K.In h)(G:h.Ns mainGlobals mg){qual:Str}{st:Stmt}{j:Array Value}(q:MethAtD K A qual st j):xX K mg c qual st j:=by
 obtain⟨f,x,u,T,kV,dc,m,C,y,ct,sl,o,n,a,i,l,e,t,d⟩:=q;exact⟨_,f,x,u,T,kV,dc,m,C,y,ct,sl,o,n,mg_of X G z.ns,⟨z.mks,a,i,z.kc⟩,l,e,t,d⟩
def Qyr{Pr:Program}{w:World}{K:Frag}{base:Heap}  {st:Stmt}  {k:Nat}  (Df:xX K mg c qual st its)(S:dZ N ps (aO st))
  (hb:∀(T:Addr) (kV u t:Value) (y:Option Addr) (j ct:Value) (us:List Value),us.length=ps.length->∃g,bindArgs (fnOf "__init__" qual (cP st) (bY st) (aO st) (.ref T) kV u t y j ct) ⟨us,[]⟩=seqItems? (.ref T) >>= g/\g (some its)=pure (ps.zip us))
  (m:Nat) (hb2:∀(T:Addr) (kV u t:Value) (y:Option Addr) (j ct:Value) (us:List Value),us.length=m->∃g,bindArgs (fnOf "__init__" qual (cP st) (bY st) (aO st) (.ref T) kV u t y j ct) ⟨us,[]⟩=seqItems? (.ref T) >>= g/\g (some its)=pure (ps.zip (us++its.toList)))
  (t lm:List Md)  {b:MS} (hR:d7 R) (hR0:∀N H F G,R N H F G .non .non) (hm:m+its.toList.length=ps.length:=by rfl) (Y:t.length=ps.length:=by rfl) (x:(t++lm).length=N.length:=by rfl) (hp:∀m∈t,m≠.o:=by decide)
  (body:∀(f:Addr) (j:Value) (A:Around) (outer:List Env) (s:Shared) (H:Hp) (E:XK),aW k (A.deeper (envOfC qual (aO st) s.heap.objs.size f j))->∀P,VSs ((fU CX0 Pr w K mg base N qual (aO st) f j A outer s H E).nox) (t++lm) P R (bY st) b):
  uo Pr w K mg base c ps its.toList (k+1) (vSp K mg t R (aG N.length b)):=by
 obtain⟨C,f,oc,od,T,kV,u,pmv,y,j,ct,osl,o,n,h1,h2,lk,Z,ht,hd⟩:=Df;refine⟨C,f,_,h1,h2,λs us U x=>?_,λs us U x=>?_,wA lk Z S (λvs H Q E h=>?_) λA outer s H vs Q E hr h=>?_⟩
 ·rw[zG] at x ⊢;obtain⟨g,L,J⟩:=hb T kV _ _ y _ ct us x;exact BindsTo.of_defaults rfl (U _ _ ht) hd L J
 ·rw[ze] at x;obtain⟨g,L,J⟩:=hb2 T kV _ _ y _ ct us (by omega);exact BindsTo.of_defaults rfl (U _ _ ht) hd L J
 ·obtain⟨ds,O,F,G,d,O',r,a,_⟩:=h;rw[a.len.1,Y]
 ·obtain⟨ds,O,F,G,d,O',r,a,e,q⟩:=h;refine⟨_,(body f _ A _ s H E hr (Pt.all H)).nox,?_⟩;refine⟨_,O,F,G,r,sV a x hp,?_⟩;unfold aG at e
  cases eb:b _ O<;>rw[eb] at e<;>cases e
  ·exact λσ' W X as' g I _=>q _ W X _ g.gr I (hR0 _ _ _ _)
  ·exact λv W X as' g I hv=>q v W X _ g.gr I (hR _ _ _ _ _ _ _ (λc hc=>jv.mp hc) hv)
theorem bN.snoc{H F:Hp}{f:List Addr}{v:V}{d:D}(h:Rp K F f v d):∀{ms:List Md}{vs:List V}{ds:List D},bN K H F f ms vs ds->bN K H F f (ms++[.v]) (vs++[v]) (ds++[d])
 | [],[],[],_=>⟨h,True.intro⟩
 | _::_,_::_,_::_,q=>⟨q.1,bN.snoc h q.2⟩
end
noncomputable def maD(m:M (List D))(d:D):M (List D):=λρ O=>(m ρ O).bind λf j=>.ok (f++[d]) j
def Qs3{p j:Pos}(M:uo X.prog X.w X.K X.mg X.base c ps [.bool b] k (vSp X.K X.mg (.v::pm) (rV X.K) cf))(R:aW (k+1) X.A)(Y:AE X md P pm.dropLast (e::es) ma)(t:pm=pm.dropLast++[.v]:=by rfl)(U:Gl X c:=by rfl)(y:(c == ("__debug__":Str))=false:=by decide)
  (W:starEach (e::es) X.env=(false,eval e X.env)::starEach es X.env:=by exact bM rfl) (u:(backTo j (starEach es X.env)).any (·.1)=false:=by exact cB rfl):VE X md P (.Call (.Name c p) (e::es) [] j) (dh c cf (maD ma (.bl b))):=by
 obtain⟨C,f,fd,h1,h3,h4,h5,Z⟩:=M
 refine(Dp (E:=E0) (dvs:=[.bl b]) h3 Z R U h1 h5 (.cons rfl .nil) lM Y y W u).imp λσ H Q q=>?_
 obtain⟨ρ,O,F,as,ds,O1,r,s,e1,q⟩:=xu (E:=E0) h1 q;obtain⟨G,O2,e2,e3⟩:=Res.bind_ok e1;cases e3;refine⟨ρ,O,F,as,G,O1,r,s,e2,λJ H1 F1 I g1 L m x dx hx hd T=>?_⟩;have h2:=m.snoc (v:=.bl b) (d:=.bl b) Rp.bl;rw[<-t] at h2
 have:=q (J++[.bl b]) H1 F1 I g1 L h2 x dx hx hd T
 rwa [zG] at this
def Qwl       (h:PSs X.nox body t):PS X (.Try body (h₀::hs) [] [] pos) t:=by
 intro pins s σ H D I q;refine wpAny_Try_except (zT (h _ s σ H D (I.wish _) q) (λf d z=>?_) λ_ _ z=>z.elim);have z:=z.unwish
 cases f with
 |next=>exact wpAny_execs_nil z
 | ret v
 | brk
 |cont=>exact z
def QvN          (h:VSs X.nox md P R body m):VS X md P R (.Try body (h₀::hs) [] [] d) m:=Qwl h
end L2
namespace L2
open PySem PySem.Spec PyProof.Rows PySem.W PySem.Calls
def Qx6{knd:KeyKind prog w Key}{S:Addr}  (hh:A.handled=none)(hv:s.heap.IsValuesView v d)(hm:s.heap.DictOf knd d kvs)(hn:kvs.length<=sizeLine)(P:d≠S)(hnv:v≠S)(L:Value)(Y:Nat)
  (hS:s.heap.get? S=some {cls:=.type "list",data:=.seq #[] Y})
  (hR:∀m j G,(∀b o,b≠S->s.heap.get? b=some o->m.heap.get? b=some o)->m.gens=s.gens->m.drawn=s.drawn->m.os=s.os->m.heap.get? S=some {cls:=.type "list",dict:=none,data:=.seq j G,slots:=#[]}->ItemsOf (λi v=>∃k,kvs[i]?=some (k,v)) j kvs.length->R (.ok (.ret L)) m):
  wpAny (model prog w) A.in1 (Builtin.List.listExtendWith (.ref S) (.ref v) L)
   (λfin m=>match fin with | .done f=>R (.ok f) m | .again G=>G.quiet=true/\codeAny (model prog w) A G R m) (λe m=>R (.error e) m) s:=by
 obtain⟨ep,y⟩:=hm.dictAt;have hT:=hv.typeIs;have O:S<s.heap.objs.size:=zl hS;have ltd:d<s.heap.objs.size:=y.lt_size;unfold Builtin.List.listExtendWith;refine za (wpAny_typeOf hT ?_)
 have h1:Builtin.List.listSameRef (.ref S) (.ref v)=false:=by simp[Builtin.List.listSameRef,hnv.symm]
 have h2:(Value.type "dict_values" == Value.type "list")=false:=by decide
 have h3:(Value.type "dict_values" == Value.type "tuple")=false:=by decide
 simp only[h1,h2,h3,Bool.or_false,Bool.false_eq_true,if_false];refine za (wpAny_pyIter_values hv y ?_);refine za (zS ?_)
 generalize hI:s.heap.objs.size=I at *
 generalize hh1:s.heap.push _=h1'
 have Z:∀b o,s.heap.get? b=some o->h1'.get? b=some o:=λb o e=>by rw[<-hh1];exact zo _ e
 have it1:h1'.IsValIter I d 0 kvs.length ep:=by rw[<-hh1,<-hI];exact⟨_,zy _ rfl,rfl,rfl⟩
 have Q:=Z _ _ hS;have U:=y.keep Z;have C:Shared.TypeIs {s with heap:=h1'} (.ref v) "dict_values":=⟨_,Z _ _ hT.choose_spec.1,hT.choose_spec.2⟩;unfold Builtin.List.listLengthHint;refine za (wpAny_specialOf (r:=some (.builtin "dict_values.__len__")) C PySem.F.slot_dict_values_len.lookup ?_);dsimp only
 have e:splitId "dict_values.__len__" = some ("dict_values","__len__"):=by decide +kernel
 rw[e];dsimp only;refine za (wpAny_isInstance (T:="dict_values") C (b:=true) (by rw[isSubtype_type];kernel_rfl) ?_);rw[if_neg (by decide),if_pos (by decide +kernel)];refine za (wpAny_typeOf C (zb ?_));rw[if_pos (by decide +kernel)];refine za (zW ?_);refine za ?_;refine za (jm Q rfl ?_);have t:=Heap.get?_update_self (Obj.mapSeq (·.push Value.none)) Q rfl;refine jm (hz:=by seq_fits) t rfl ?_;have E:=Heap.get?_update_self (Obj.mapSeq (·.pop)) t rfl;have x:∀b o,b≠S->h1'.get? b=some o->((h1'.update S (Obj.mapSeq (·.push Value.none))).update S (Obj.mapSeq (·.pop))).get? b=some o :=
  λb o J e=>(jh _ _ (Ne.symm J)).trans ((jh _ _ (Ne.symm J)).trans e)
 have W:=(Walks.dictValues (knd:=knd) (prog:=prog) (w:=w) (A:=A.in1) hh I d (zp ltd) kvs ep).toS
 refine zb ⟨plainId_quiet PySem.F.plain_extend_loop _,codeAny_extend_loopS W hn S (by simp only[zk,List.not_mem_nil,or_false,not_or];exact⟨zp O,P.symm⟩) _ kvs.length 0 _ _ _ rfl (Nat.zero_le _)
  ⟨it1.at λo e=>x I o (Nat.ne_of_gt O) e,U.at' λo e=>x d o P e⟩ E (ItemsOf.nil _) λm j G u hS' X=>?_⟩
 refine hR m j G (λb o J e=>u.heap b o (λhz=>?_) (x b o J (Z b o e))) u.gens u.drawn u.os hS' X;simp only[zk,List.not_mem_nil,or_false] at hz
 rcases hz with hz | hz
 ·exact J hz
 ·exact absurd (zl e) (by rw[hz,hI];exact zV _)
def Qmg{knd:KeyKind prog w Key}    (R:A.handled=none)(hv:s.heap.IsValuesView v d)(P:s.heap.DictOf knd d kvs)(O:kvs.length<=sizeLine)
  (T:∀j f I,(∀b o,s.heap.get? b=some o->j.heap.get? b=some o)->j.gens=s.gens->j.drawn=s.drawn->j.os=s.os->j.heap.get? s.heap.objs.size=some {cls:=.type "list",dict:=none,data:=.seq f I,slots:=#[]}->ItemsOf (λi v=>∃k,kvs[i]?=some (k,v)) f kvs.length->Q (.ref s.heap.objs.size) j):
  wpAny (model prog w) A (call (.type "list") [.ref v]) Q E s:=by
 obtain⟨ep,y⟩:=P.dictAt;obtain⟨L,x,J⟩:=id hv;refine callType_codes (Q₁:=λobj m=>obj=.ref s.heap.objs.size/\m = {s with heap:=s.heap.push _}) PySem.F.called_list (PySem.F.typeCall_list_1 _) PySem.F.entry_list_init
  (code_list_new _ ⟨rfl,rfl⟩) λobj m C=>?_
 obtain⟨rfl,rfl⟩:=C;have G:(s.heap.push {cls:=.type "list",data:=.seq #[]}).get? s.heap.objs.size=some _:=zy _ rfl;refine⟨⟨_,G,rfl⟩,PySem.F.args_list_init_2 _ _,?_⟩;refine za ?_;refine za (wpAny_seqItems G rfl (zb ?_));refine za (jm G rfl ?_);have u:=Heap.get?_update_self (Obj.mapSeq (λ_=>(#[]:Array Value))) G rfl;have t:∀b o,s.heap.get? b=some o->((s.heap.push {cls:=.type "list",data:=.seq #[]}).update s.heap.objs.size (Obj.mapSeq (λ_=>(#[]:Array Value)))).get? b=some o :=
  λb o e=>(jh _ _ (Nat.ne_of_gt (zl e))).trans (zo _ e)
 refine Qx6 (by exact R) ⟨L,t _ _ x,J⟩ (y.keep t).dictOf O (zp y.lt_size) (zp (zl x)) .none _ u λj f I kp X W U Z Y=>?_
 exact⟨rfl,T j f I (λb o e=>kp b o (zp (zl e)) (t b o e)) X W U Z Y⟩
section
variable {X:Cx}{md:List Md}{P:Pt}{R:RR}
def Qqu(G:X.calm=true):cZ X (.type "list") (λxs H Q=>∃v d f,xs=[V.ref v]/\H v=some (.ext λh=>h.IsValuesView v d)/\H d=some (.dK f)/\∀l,H l=none->Q (.ref l) (upd H l (.lst (f.map (·.2))))):=by
 intro pins s σ H xs us Q I r h;obtain⟨a,d,f,rfl,x,hd,q⟩:=h;obtain⟨u,rfl,F⟩:=vals1 r;cases F;obtain⟨z,Y,Z,rel,U⟩:=wI I.hok hd;have hlen:=rel.length
 refine Qmg (I.ok.hd G) (I.hok a _ x).1 U (by omega) λs' m W kp O L J e1 C=>?_
 obtain⟨⟩:=s;subst O L J
 have E:aF (f.map (·.2)) m.toList:=by
  refine Gx _ _ (by rw[zf,hlen,<-C.1];simp) λj p v t x=>?_
  obtain⟨k,T⟩:=C.2 j v (by simpa using x);rw[zC] at t
  cases e:f[j]? with
  |none=>rw[e] at t;cases t
  |some y =>
   rw[e] at t;cases t;exact(Gz rel e T).2
 exact⟨.ref _,_,I.laid kp (zc _) (show bU _ _ _ _ _ (.lst _) from⟨by rw[zf];exact z,m.toList,W,E,by simpa ⟩),rfl,q _ (I.hok.fresh (zc _))⟩
def Qxi  {apos f:Pos}  (h:PE X e te)(m:attributeBase e "values" X.env (eval e X.env)=eval e X.env:=by rfl)(j:(apos.endLine == f.line)=true:=by rfl):PE X (.Call (.Attribute e "values" apos) [] [] f) (λσ H Q=>te σ H λx y=>∃d t,x=.ref d/\y d=some (.dK t)/\∀v,y v=none->Q (.ref v) (upd y v (.ext λh=>h.IsValuesView v d))):=by
 intro pins s σ H Q I J;refine wpAny_Call_method0_late m j (thn (h pins s σ H _ I J) λv s1 ⟨x,y,I1,r1,q1⟩=>?_);obtain⟨d,t,rfl,hd,q⟩:=q1;cases r1;obtain⟨z,C,G,rel,u⟩:=wI I1.hok hd;obtain⟨O,E⟩:=u.dictAt
 have nd:∀b,Value.ref d=.ref b->∃ob,s1.heap.get? b=some ob/\ob.dict=none:=λb L=>by
  cases L;obtain⟨ob,_,h1,h2,_⟩:=id E;exact⟨ob,h1,h2.2.1⟩
 refine⟨"dict","dict.values",PySem.F.plainAttrs_dict,PySem.F.slot_dict_values,PySem.F.type_dict_values,u.typeIs,nd,Calls.callWith_builtin rfl (PySem.evalArgs_none ?_)⟩;refine call_meetsIn PySem.F.slot_dict_values u.typeIs PySem.F.entry_dict_values (PySem.F.args_dict_values_1 _) (meets_dict_values _ d C) ⟨⟨G,u⟩,?_⟩;exact⟨.ref _,_,I1.laid (λb o e=>zo _ e) (zc _) (show bU X.prog X.w _ _ _ (.ext _) from⟨⟨_,zy _ rfl,rfl,rfl⟩,⟨_,zy _ rfl⟩,λh1 h2 ⟨o,q1,q2⟩ k=>⟨o,k _ q1,q2⟩⟩),rfl,q _ (I1.hok.fresh (zc _))⟩
noncomputable def qw(mo:M D):M D:=λρ O=>(mo ρ O).bind λx d=>match x with
 | .ob n=>match d[n]? with
  |some (.dk kvs)=>.ok (.lst (kvs.map (·.2))) d
  | _=>.no
 | _=>.no
def Qug  {p y apos f:Pos}  (E:X.calm=true)(Y:X.mg "list" = none)(h:VE X md P a m)(hg:Gl X "list":=by rfl)(t:attributeBase a "values" X.env (eval a X.env)=eval a X.env:=by rfl)(j:(apos.endLine == f.line)=true:=by rfl)
  (hs1:starEach [Expr.Call (.Attribute a "values" apos) [] [] f] X.env=(false,eval (Expr.Call (.Attribute a "values" apos) [] [] f) X.env)::starEach [] X.env:=by exact bM rfl) (hpl:(backTo y (starEach [] X.env)).any (·.1)=false:=by exact cB rfl):OE X md P (.Call (.Name "list" p) [.Call (.Attribute a "values" apos) [] [] f] [] y) (qw m):=
 (rT (Qqu E) hg Y w6 (dY (Qxi h t j) fC) (by decide) (by decide)).imp λσ H Q q=>by
  obtain⟨ρ,O,F,as,d,O',r,s,e,k⟩:=q;obtain⟨x,O1,e1,e⟩:=Res.bind_ok e;split at e
  ·split at e
   ·rename_i kvs e4;cases e;refine⟨ρ,_,F,as,_,_,r,s,e1,λv H1 F1 as1 J I u=>?_⟩;obtain⟨a,rfl,ha⟩:=Rp.unO u;obtain⟨G,C,L⟩:=I.dk ha e4;refine⟨a,G,rfl,C,λv u=>⟨v,a,G,rfl,bx,by rw[aD λz=>by rw[z,u] at C;cases C];exact C,λl Z=>?_⟩⟩;refine km (I.lay u) (λT H' F' g' U W=>k T H' F' _ (J.trans ((Gr.lay u).trans g')) U (fD _ _ _ _ _ _ _ (λc E=>?_) W)) Z L.2;refine J.dm c ?_
    rcases Decidable.em (c=v) with z | z
    ·rw[z];exact u
    ·rwa [aD z] at E
   ·cases e
  ·cases e
end
end L2
namespace L2
open PySem PySem.Spec PyProof.Rows PySem.W
inductive ou (P:Program) (w:World) (K:Frag) (mg:Str->Option Value) (base:Heap) (x:Str) (ps:List Str) (ds:List Value) (k:Nat) (sp:Sp):Prop
 | mk:∀f fd,mg x=some (.ref f)->keepIn K (.ref f)=true->Binds K fd ps []->Binds K fd ps ds->cz P w K mg base CX0 k f fd ps sp->(∃oc od osl,K.lookup f=some ⟨oc,od,.func fd,osl⟩)->ou P w K mg base x ps ds k sp
def ou.can{K:Frag}      (h:ou y w K mg base x ps ds k sp):Can y w K mg base x ps k sp:=by
 obtain⟨f,fd,h1,h2,h3,h4,u,m,j,d,t⟩:=h;exact⟨f,fd,h1,h2,h3,u,m,j,d,t⟩
def QAU{Pr:Program}{w:World}{K:Frag}{base:Heap}  {st:Stmt}  {k:Nat}  (Df:xV K mg x st its)(S:dZ N ps (aO st))
  (hb:∀(T:Addr) (kV u t:Value) (C:Option Addr) (j ct:Value) (us:List Value),us.length=ps.length->∃g,bindArgs (fnOf x x (cP st) (bY st) (aO st) (.ref T) kV u t C j ct) ⟨us,[]⟩=seqItems? (.ref T) >>= g/\g (some its)=pure (ps.zip us))
  (m:Nat) (hb2:∀(T:Addr) (kV u t:Value) (C:Option Addr) (j ct:Value) (us:List Value),us.length=m->∃g,bindArgs (fnOf x x (cP st) (bY st) (aO st) (.ref T) kV u t C j ct) ⟨us,[]⟩=seqItems? (.ref T) >>= g/\g (some its)=pure (ps.zip (us++its.toList)))
  (t lm:List Md)  {b:MS} (hR:d7 R) (hR0:∀N H F G,R N H F G .non .non) (hm:m+its.toList.length=ps.length:=by rfl) (Z:t.length=ps.length:=by rfl) (y:(t++lm).length=N.length:=by rfl) (hp:∀m∈t,m≠.o:=by decide)
  (body:∀(f:Addr) (j:Value) (A:Around) (outer:List Env) (s:Shared) (H:Hp) (E:XK),aW k (A.deeper (envOfC x (aO st) s.heap.objs.size f j))->∀P,VSs ((fU CX0 Pr w K mg base N x (aO st) f j A outer s H E).nox) (t++lm) P R (bY st) b):
  ou Pr w K mg base x ps its.toList (k+1) (vSp K mg t R (aG N.length b)):=by
 obtain⟨f,oc,od,T,kV,u,pmv,C,j,ct,Y,o,n,h1,lk,hcd,h2,ht,hd⟩:=Df;refine⟨f,_,h1,h2,λs us U y=>?_,λs us U y=>?_,wA lk hcd S (λvs H Q E h=>?_) λA outer s H vs Q E hr h=>?_,oc,od,Y,lk⟩
 ·rw[zG] at y ⊢;obtain⟨g,L,J⟩:=hb T kV _ _ C _ ct us y;exact BindsTo.of_defaults rfl (U _ _ ht) hd L J
 ·rw[ze] at y;obtain⟨g,L,J⟩:=hb2 T kV _ _ C _ ct us (by omega);exact BindsTo.of_defaults rfl (U _ _ ht) hd L J
 ·obtain⟨ds,O,F,G,d,O',r,a⟩:=h;rw[a.len.1,Z]
 ·obtain⟨ds,O,F,G,d,O',r,a,e,q⟩:=h;refine⟨_,(body f _ A _ s H E hr (Pt.all H)).nox,?_⟩;refine⟨_,O,F,G,r,sV a y hp,?_⟩;unfold aG at e
  cases eb:b _ O<;>rw[eb] at e<;>cases e
  ·exact λσ' W X as' g I _=>q _ W X _ g.gr I (hR0 _ _ _ _)
  ·exact λv W X as' g I hv=>q v W X _ g.gr I (hR _ _ _ _ _ _ _ (λc hc=>jv.mp hc) hv)
def QtA{p d:Pos}(C:ou X.prog X.w X.K X.mg X.base x ps [.bool b] k (vSp X.K X.mg pm (rV X.K) cf))(G:aW k X.A)(L:AE X md P pm.dropLast (e::es) ma)(m:pm=pm.dropLast++[.v]:=by rfl)(I:Gl X x:=by rfl)(u:(x == ("__debug__":Str))=false:=by decide)
  (J:starEach (e::es) X.env=(false,eval e X.env)::starEach es X.env:=by exact bM rfl) (t:(backTo d (starEach es X.env)).any (·.1)=false:=by exact cB rfl):VE X md P (.Call (.Name x p) (e::es) [] d) (aC cf (maD ma (.bl b))):=by
 obtain⟨f,fd,h1,h2,h3,h4,R⟩:=C
 refine(Dn (dvs:=[.bl b]) R G I h1 h2 h4 (.cons rfl .nil) lM L u J t).imp λσ H Q q=>?_
 obtain⟨ρ,O,F,Z,ds,O1,r,s,Y,q⟩:=Ft jy q;obtain⟨y,O2,W,U⟩:=Res.bind_ok Y;cases U;refine⟨ρ,O,F,Z,y,O1,r,s,W,λvs H1 F1 as1 T E j=>?_⟩;have h2:=j.snoc (v:=.bl b) Rp.bl;rw[<-m] at h2
 have:=q _ H1 F1 _ T E h2
 rwa [zG] at this
section
variable {X:Cx}{md:List Md}{P:Pt}{R:RR}
def QBy(K:Frag):V->List V->Hp->VK->Prop:=λx d H Q=>∃(a:Addr) (ss:List Str) (y:Str) (j:Nat),x=.ref a/\d=[.str y]/\SqL K H a (ss.map V.str)/\j<1000000/\ss[j]?=some y/\(∀m,m<j->ss[m]?≠some y)/\Q (.int (j:Int)) H
def isT(y:Str):Value->Bool
 | .str t _=>decide (t=y)
 | _=>false
def Qse:MtR X "list.index" (QBy X.K):=by
 intro pins s σ H x xs v us Q I Z rs h;obtain⟨a,ss,y,j,rfl,rfl,hq,hj,h1,h2,q⟩:=h;cases Z;obtain⟨u,rfl,ru⟩:=vals1 rs;obtain⟨b,rfl⟩:=ru;obtain⟨f,L,⟨o,n,e,c,d,da⟩,W⟩:=I.list hq
 have at':∀(m:Nat) (z ),f[m]?=some z->∃t tk,ss[m]?=some t/\z=.str t tk:=λm z C=>by
  have O:=L.length;rw[zf] at O
  have J:m<ss.length:=by have:=(zu.mp C).1;omega
  have hs:(ss.map V.str)[m]?=some (V.str ss[m]):=by rw[zC,zt];rfl
  obtain⟨u,Y,rv⟩:=L.get hs;rw[C] at Y;cases Y;obtain⟨tk,rfl⟩:=rv;exact⟨_,tk,zt _,rfl⟩
 have U:j<f.length:=by
  have O:=L.length;rw[zf] at O
  have:=(zu.mp h1).1
  omega
 obtain⟨⟩:=o;subst c d da;refine call_meets PySem.F.slot_list_index ⟨_,e,rfl⟩ PySem.F.entry_list_index (PySem.F.args_list_index_2 _ _) (PySem.SeqAt.list_indexAt a _ n _ _ _ (isT y) j (by simpa ) (by omega) ?_ ?_) ⟨e,λz W=>?_,⟨.int _,H,I.tok _,⟨_,rfl⟩,q⟩⟩
 ·obtain⟨t,tk,G,T⟩:=at' j _ (zt U);rw[h1] at G;cases G;simp  [T];exact zv rfl
 ·intro m C J
  have hm' :=by simpa using C
  obtain⟨t,tk,G,T⟩:=at' m _ (zt hm');simp  [T]
  exact zq λz=>h2 m J (by rw[G,z])
 ·obtain⟨m,C⟩:=List.getElem?_of_mem (show z∈f by simpa using W);obtain⟨t,tk,G,rfl⟩:=at' m z C;intro prog w E Q h;exact eqBool_str h
def uq(mo m:M D):M D:=λρ O=>(mo ρ O).bind λa f=>(m ρ f).bind λb d=>match a with
 | .lst ds=>match b with
  | .str l=>match fG ds with
   |some ls=>if l∈ls/\ls.length<=1000000 then .ok (.int (ls.idxOf l:Int)) d else .no
   |none=>.no
  | _=>.no
 | _=>.no
def Qr5  {apos f:Pos}  (Z:VE X md P o mo)(h:VE X md P e m)
  (t:attributeBase o "index" X.env (eval o X.env)=eval o X.env:=by rfl) (y:((backTo f (starEach [e] X.env)).all (λx=>!x.1)&&(backToKw f (keywordEach [] X.env)).all (λx=>x.1.isSome)&&decide ([e].length+([]:List Keyword).length+(if([]:List Keyword).isEmpty then 0 else 1)<30))=true:=by rfl)
  (j:(apos.endLine == f.line)=true:=by rfl) (hs:starEach [e] X.env=(false,eval e X.env)::starEach [] X.env:=by exact bM rfl) (C:(backTo f (starEach [] X.env)).any (·.1)=false:=by exact cB rfl):
  OE X md P (.Call (.Attribute o "index" apos) [e] [] f) (uq mo m):=
 (j4 PySem.F.plainAttrs_list PySem.F.slot_list_index PySem.F.type_list_index Qse Z (dY h fC hs) t y j hs).imp λσ H Q q=>by
  obtain⟨ρ,O,F,as,d,O',r,s,e,k⟩:=q;obtain⟨a,O1,e1,e⟩:=Res.bind_ok e;obtain⟨b,O2,e2,e⟩:=Res.bind_ok e;split at e
  ·split at e
   ·rename_i l;split at e
    ·rename_i ls el;split at e
     ·rename_i hc;cases e;refine⟨ρ,_,F,as,_,_,r,s,e1,λv H1 F1 G T J W=>?_⟩;obtain⟨p,U,rfl,h1,h2⟩:=W.unL;refine⟨.inl ⟨rfl,U,(h1.mono J.fh).sq⟩,ρ,_,F1,G,_,_,J,s.step T,e2,λu H2 F2 as2 L I Y=>?_⟩;cases Rp.unS Y;have hx:=Rps.strs h2 el;rw[show(λl=>V.str _)=V.str ∘ S from rfl,<-zO] at hx;subst hx;have E:=List.idxOf_lt_length_of_mem hc.1;refine⟨p,ls.map S,_,ls.idxOf l,rfl,rfl,((h1.mono L.ff).mono I.fh).sq,by omega,by rw[zC,zt E,List.getElem_idxOf];rfl,λm hm z=>?_,k _ H2 F2 _ (T.trans L) I (.inl ⟨rfl,Rp.int⟩)⟩;rw[zC,zt (by omega)] at z
      have:=List.not_of_lt_findIdx hm
      rw[nG (zE z)] at this;simp at this
     ·cases e
    ·cases e
   ·cases e
  ·cases e
end
end L2
namespace L2
open PySem PySem.Spec PyProof.Rows
def ofO(o:Option D)(O:au):Res D:=match o with
 |some d=>.ok d O
 |none=>.no
@[simp] theorem jF  :ofO (some d) O=.ok d O:=rfl
@[simp] theorem aL  {a:α}  {f:α->au->Res β}:(Res.ok a O).bind f=f a O:=rfl
@[simp] theorem QBI :aV O .non=.non:=rfl
@[simp] theorem mz  :aV O (.bl b)=.bl b:=rfl
@[simp] theorem jG  :aV O (.int b)=.int b:=rfl
@[simp] theorem mD  :aV O (.str b)=.str b:=rfl
@[simp] theorem fH  :aV O (.lst b)=.lst b:=rfl
@[simp] theorem QBJ  :aV O (.tup b)=.tup b:=rfl
@[simp] theorem QBQ  :aV O (.dic a b)=.dic a b:=rfl
@[simp] theorem gb   :aa i ρ O=(match ρ[i]? with | some (some d)=>.ok d O | _=>.no):=rfl
@[simp] theorem m_c   :mC d ρ O=.ok d O:=rfl
@[simp] theorem xY    :ak g a b ρ O=(a ρ O).bind λx f=>(b ρ f).bind λy d=>ofO (g (aV d x) (aV d y)) d:=rfl
def gF(r:Res D):Res D:=match r with
 | .ok d O'=>if iu d=true then .ok d O' else .no
 |r=>r
@[simp] theorem m_g   :mG m ρ O=gF (m ρ O):=rfl
@[simp] theorem Qzl  :gF (.ok (.int i) O)=.ok (.int i) O:=rfl
@[simp] theorem QDr  :gF (.ok (.str i) O)=.ok (.str i) O:=rfl
@[simp] theorem QEi  :gF (.ok (.bl i) O)=.ok (.bl i) O:=rfl
@[simp] theorem QDM :gF (.ok .non O)=.ok .non O:=rfl
@[simp] theorem QDK  :gF (.ok (.tup l) O)=.ok (.tup l) O:=rfl
@[simp] theorem QD7  :gF (.ok (.ob n) O)=.ok (.ob n) O:=rfl
def chF(o:Option D)(O:au)(f:Unit->Res D):Res D:=match o with
 |some (.bl true)=>f ()
 |some (.bl false)=>.ok (.bl false) O
 | _=>.no
@[simp] theorem QAm   :chF (some (.bl b)) O f=if b=true then f () else .ok (.bl false) O:=by cases b<;>rfl
@[simp] theorem Hk    :fV g g' a b c ρ O=(a ρ O).bind λx j=>(b ρ j).bind λy d=>chF (g (aV d x) (aV d y)) d λ_=>(c ρ d).bind λz f=>ofO (g' (aV f y) (aV f z)) f:=by
 unfold fV;congr 1
@[simp] theorem QAo   :iw m ρ O=(m ρ O).bind λd f=>.ok (.bl (isNon d)) f:=rfl
@[simp] theorem QDw   :kh m ρ O=(m ρ O).bind λd f=>.ok (.bl (!isNon d)) f:=rfl
@[simp] theorem QBL:isNon .non=true:=rfl
@[simp] theorem QBR :isNon (.lst l)=false:=rfl
@[simp] theorem QBO :isNon (.tup l)=false:=rfl
@[simp] theorem QBK :isNon (.str l)=false:=rfl
@[simp] theorem QBN :isNon (.int l)=false:=rfl
@[simp] theorem QCF :isNon (.ob l)=false:=rfl
def teF(d:D)(O:au):Res Bool:=match d with
 | .bl b=>.ok b O
 | _=>.no
@[simp] theorem Hl  :teF (.bl b) O=.ok b O:=rfl
@[simp] theorem Hm   :az m ρ O=(m ρ O).bind teF:=rfl
def ofB(o:Option Bool)(O:au):Res Bool:=match o with
 |some d=>.ok d O
 |none=>.no
@[simp] theorem oA  :ofB (some d) O=.ok d O:=rfl
@[simp] theorem jH   :bK m ρ O=(m ρ O).bind λd f=>ofB (lO (aV f d)) f:=rfl
@[simp] theorem mF :lO (.bl b)=some b:=rfl
@[simp] theorem QB8 :lO (.lst b)=some (!b.isEmpty):=rfl
@[simp] theorem Hn   :cV a b ρ O=(a ρ O).bind λc d=>if c=true then b ρ d else .ok false d:=rfl
@[simp] theorem ur   :cC a b ρ O=(a ρ O).bind λc d=>if c=true then .ok true d else b ρ d:=rfl
@[simp] theorem mH   :dB a ρ O=(a ρ O).bind λc d=>.ok (!c) d:=rfl
def anF(d:D)(O:au)(f:Unit->Res D):Res D:=match d with
 | .bl true=>f ()
 | .bl false=>.ok (.bl false) O
 | _=>.no
def orF(d:D)(O:au)(f:Unit->Res D):Res D:=match d with
 | .bl true=>.ok (.bl true) O
 | .bl false=>f ()
 | _=>.no
@[simp] theorem QDT   :anF (.bl b) O f=if b=true then f () else .ok (.bl false) O:=by cases b<;>rfl
@[simp] theorem QD4   :orF (.bl b) O f=if b=true then .ok (.bl true) O else f ():=by cases b<;>rfl
@[simp] theorem QxI   :gj a b ρ O=(a ρ O).bind λd f=>anF d f λ_=>b ρ f:=by
 congr 1
@[simp] theorem QD9   :Vu a b ρ O=(a ρ O).bind λd f=>orF d f λ_=>b ρ f:=by
 congr 1
def noF(d:D)(O:au):Res D:=match d with
 | .bl b=>.ok (.bl (!b)) O
 | _=>.no
@[simp] theorem QEa  :noF (.bl b) O=.ok (.bl (!b)) O:=rfl
@[simp] theorem QDs   :wU a ρ O=(a ρ O).bind noF:=rfl
@[simp] theorem iD    :mIf t a b ρ O=(t ρ O).bind λc d=>if c=true then a ρ d else b ρ d:=rfl
@[simp] theorem mJ  :ao ρ O=.ok [] O:=rfl
@[simp] theorem jJ    :aj m r ρ O=(m ρ O).bind λd j=>(r ρ j).bind λds f=>.ok (d::ds) f:=rfl
@[simp] theorem Ho   :bJ r ρ O=(r ρ O).bind λds d=>if ds.length<=1000000 then .ok (.lst ds) d else .no:=rfl
@[simp] theorem Hq   :aX r ρ O=(r ρ O).bind λds d=>if ds.length<=1000000 then .ok (.tup ds) d else .no:=rfl
@[simp] theorem oE    :aC c ma ρ O=(ma ρ O).bind λds d=>c ds d:=rfl
@[simp] theorem xZ    :aU g ma ρ O=(ma ρ O).bind λds d=>ofO (g (ds.map (aV d))) d:=rfl
@[simp] theorem QEw    :mUn g ma ρ O=(ma ρ O).bind λd f=>ofO (g (aV f d)) f:=rfl
def isF(n:String)(o:Option String)(O:au):Res D:=match o with
 |some t=>.ok (.bl (dg t n)) O
 |none=>.no
@[simp] theorem Hr  :isF n (some t) O=.ok (.bl (dg t n)) O:=rfl
@[simp] theorem Hs    :gn n m ρ O=(m ρ O).bind λd f=>isF n (tyD (aV f d)) f:=rfl
@[simp] theorem QC8:tyD .non=some "NoneType":=rfl
@[simp] theorem QDP :tyD (.bl b)=some "bool":=rfl
@[simp] theorem QDh :tyD (.int b)=some "int":=rfl
@[simp] theorem QwA :tyD (.str b)=some "str":=rfl
@[simp] theorem QDj :tyD (.lst b)=some "list":=rfl
@[simp] theorem QDc :tyD (.tup b)=some "tuple":=rfl
@[simp] theorem QDk :tyD (.dic a b)=some "dict":=rfl
@[simp] theorem QEv  :moN ρ O=.ok none O:=rfl
def osF(d:D)(O:au):Res (Option Int):=match d with
 | .int i=>.ok (some i) O
 | _=>.no
@[simp] theorem QBh  :osF (.int i) O=.ok (some i) O:=rfl
@[simp] theorem QC5   :moS m ρ O=(m ρ O).bind osF:=rfl
@[simp] theorem QCs  {lo:M (Option Int)}  :mSl m lo u ρ O=(m ρ O).bind λd t=>(lo ρ t).bind λl j=>(u ρ j).bind λh f=>ofO (gSl (aV f d) l h) f:=rfl
@[simp] theorem Ht  {lo:Option Int}:gSl (.str l) lo d=if l.length<=16777216 then some (.str (cG l lo d)) else none:=rfl
@[simp] theorem Hu  {lo:Option Int}:gSl (.lst l) lo d=some (.lst (cG l lo d)):=rfl
@[simp] theorem QDd  {lo:Option Int}:gSl (.tup l) lo d=some (.tup (cG l lo d)):=rfl
def iG(f:Fl)(b:MS):Fl:=match f with
 | .nx ρ' O'=>b ρ' O'
 |r=>r
@[simp] theorem eV   :aq a b ρ O=iG (a ρ O) b:=rfl
@[simp] theorem jK   :iG (.nx ρ O) b=b ρ O:=rfl
@[simp] theorem QvR   :iG (.rt d O) b=.rt d O:=rfl
@[simp] theorem QDb   :iG (.bk ρ O) b=.bk ρ O:=rfl
@[simp] theorem QDp   :iG (.ct ρ O) b=.ct ρ O:=rfl
@[simp] theorem QDg :iG .no b=.no:=rfl
@[simp] theorem Hv  :aM ρ O=.nx ρ O:=rfl
def lq(r:Res D):Fl:=match r with
 | .ok d O'=>.rt d O'
 | .ex x O'=>.ex x O'
 | .no=>.no
@[simp] theorem dO   :aA m ρ O=lq (m ρ O):=rfl
@[simp] theorem Hw  :lq (.ok d O)=.rt d O:=rfl
def Hx(r:Res D)(ρ:aK):Fl:=match r with
 | .ok _ O'=>.nx ρ O'
 | .ex x O'=>.ex x O'
 | .no=>.no
@[simp] theorem qx   :dJ m ρ O=Hx (m ρ O) ρ:=rfl
@[simp] theorem uv   :Hx (.ok d O) ρ=.nx ρ O:=rfl
def ifF(r:Res Bool)(a b:MS)(ρ:aK):Fl:=match r with
 | .ok c O'=>if c=true then a ρ O' else b ρ O'
 | .ex x O'=>.ex x O'
 | .no=>.no
@[simp] theorem lr    :aJ t a b ρ O=ifF (t ρ O) a b ρ:=rfl
@[simp] theorem uw    :ifF (.ok c O) a b ρ=if c=true then a ρ O else b ρ O:=rfl
def qy(i:Nat)(r:Res D)(ρ:aK):Fl:=match r with
 | .ok d O'=>.nx (ρ.set i (some d)) O'
 | .ex x O'=>.ex x O'
 | .no=>.no
@[simp] theorem qz    :aB i m ρ O=qy i (m ρ O) ρ:=rfl
@[simp] theorem qC    :qy i (.ok d O) ρ=.nx (ρ.set i (some d)) O:=rfl
def Hy(r:Res (List D))(g:MG)(b:MS)(ρ:aK):Fl:=match r with
 | .ok ds O'=>bj g b ds ρ O'
 | .ex x O'=>.ex x O'
 | .no=>.no
@[simp] theorem qD     :bW m g b ρ O=Hy (m ρ O) g b ρ:=rfl
@[simp] theorem qF     :Hy (.ok ds O) g b ρ=bj g b ds ρ O:=rfl
@[simp] theorem mg_n   :mgN i d ρ=some (ρ.set i (some d)):=rfl
def aY(f:Fl):Res D:=match f with
 | .rt d O'=>.ok d O'
 | .nx _ O'=>.ok .non O'
 | .ex x O'=>.ex x O'
 | _=>.no
@[simp] theorem QBn    :aG n b ds O=aY (b (ds.map some++List.replicate (n - ds.length) none) O):=rfl
@[simp] theorem Qwa  :aY (.rt d O)=.ok d O:=rfl
@[simp] theorem Hz  :aY (.nx ρ O)=.ok .non O:=rfl
@[simp] theorem QzN   :eE m ρ O=(m ρ O).bind λds d=>match ds with
 | [.int j]=>if j<=1000000000/\-1000000000<=j then .ok (fY 0 j.toNat) d else .no
 | _=>.no:=rfl
def itF(o:Option (List D))(O:au):Res (List D):=match o with
 |some d=>.ok d O
 |none=>.no
@[simp] theorem yc  :itF (some ds) O=.ok ds O:=rfl
@[simp] theorem oF   :bz m ρ O=(m ρ O).bind λd f=>itF (lX d) f:=rfl
@[simp] theorem Qrj :lX (.lst ds)=some ds:=rfl
@[simp] theorem QBM :lX (.tup ds)=some ds:=rfl
def HB  (h:ascii l=true):lX (.str l)=some (cA l):=by
 show(if ascii l=true then some _ else none)=_;rw[if_pos h]
@[simp] theorem oG        :bO m own cap g t e ρ O=(m ρ O).bind λds f=>if ds.length<=1000000 then(b7 g t e ds (dM own cap ρ) f []).bind λys d=>.ok (.lst ys) d else .no:=rfl
@[simp] theorem QDx :aH (.int i) (.int j)=some (.int (i+j)):=rfl
@[simp] theorem Qz1 :aH (.str a) (.str b)=if a.length+b.length<=1000000 then some (.str (a++b)) else none:=rfl
@[simp] theorem QzP :aH (.lst a) (.lst b)=if a.length+b.length<=1000000 then some (.lst (a++b)) else none:=rfl
@[simp] theorem QBZ :jA (.int i) (.int j)=some (.int (i - j)):=rfl
@[simp] theorem QzA :b8 (.int i) (.int j)=if 0<j then some (.int (i % j)) else none:=by
 unfold b8 gI
 by_cases  0<j<;>simp
@[simp] theorem QDm :kE (.int i) (.int j)=if 0<j/\j<1073741824 then some (.int (i / j)) else none:=by
 unfold kE gI
 by_cases  0<j/\j<1073741824<;>simp
def HD  (h:(-(2 ^ 64)<i/\i<2 ^ 64)\/(-(2 ^ 64)<j/\j<2 ^ 64)):gP (.int i) (.int j)=some (.int (i * j)):=by
 unfold gP
 dsimp
 rw[if_pos];rw[Bool.or_eq_true];unfold nO;rw[zD,zD,decide_eq_true_eq,decide_eq_true_eq,decide_eq_true_eq,decide_eq_true_eq];exact h
@[simp] theorem QDX :gLt (.int i) (.int j)=some (.bl (decide (i<j))):=rfl
@[simp] theorem QD3 :gGt (.int i) (.int j)=some (.bl (decide (j<i))):=rfl
@[simp] theorem QDU :gGe (.int i) (.int j)=some (.bl (decide (j<=i))):=rfl
@[simp] theorem QBB :gLe (.int i) (.int j)=some (.bl (decide (i<=j))):=rfl
def HF(a b:Nat):(([a]:List Nat) < [b])↔a<b:=by
 constructor
 ·intro h
  rcases List.cons_lt_cons_iff.mp h with h | ⟨_,h⟩
  ·exact h
  ·exact absurd h (List.not_lt_nil _)
 ·intro h;exact List.cons_lt_cons_iff.mpr (.inl h)
@[simp] theorem QEj :gLe (.str [a]) (.str [b])=some (.bl (decide (a<=b))):=by
 show some _=_
 have:decide ([b] < [a])=decide (b<a):=by
  by_cases h:b<a
  ·rw[zv h,zv ((HF _ _).mpr h)]
  ·rw[zq h,zq λz=>h ((HF _ _).mp z)]
 rw[this]
 by_cases h:b<a
 ·rw[zv h,zq (by omega)];rfl
 ·rw[zq h,zv (by omega)];rfl
@[simp] theorem QDW :gEq (.int i) (.int j)=some (.bl (decide (i=j))):=rfl
@[simp] theorem QBz :gEq (.str i) (.str j)=some (.bl (decide (i=j))):=rfl
@[simp] theorem QEf :gEq (.bl i) (.bl j)=some (.bl (decide (i=j))):=rfl
@[simp] theorem QD6 :gEq (.lst i) (.lst j)=if(okE (.lst i)&&okE (.lst j))=true then some (.bl (lV (.lst i) (.lst j))) else none:=rfl
@[simp] theorem QEn :gNe (.int i) (.int j)=some (.bl (!decide (i=j))):=rfl
@[simp] theorem QEg :gNe (.str i) (.str j)=some (.bl (!decide (i=j))):=rfl
@[simp] theorem QD0 :gNe (.bl i) (.bl j)=some (.bl (!decide (i=j))):=rfl
@[simp] theorem HH :gNe (.lst i) (.lst j)=if(okE (.lst i)&&okE (.lst j))=true then some (.bl (!lV (.lst i) (.lst j))) else none:=rfl
@[simp] theorem HJ   :gIn n (.str [c]) (.str l)=some (.bl (n ^^ decide (c∈l))):=rfl
def lu  :gIx (.lst ds) (.int i)=atI ds i:=rfl
def HN  :gIx (.str l) (.int i)=if l.length<=1000000 then(atI l i).map (λc=>.str [c]) else none:=rfl
@[simp] theorem HQ :bc [.str l]=if l.length<=1000000 then some (.int l.length) else none:=rfl
@[simp] theorem QDL :bc [.lst l]=some (.int l.length):=rfl
@[simp] theorem QDy :bc [.tup l]=some (.int l.length):=rfl
@[simp] theorem QDN :WL [.int i,.int j]=some (.int (if j>i then j else i)):=rfl
@[simp] theorem QDF :WM [.int i,.int j]=some (.int (if j<i then j else i)):=rfl
@[simp] theorem QDt :Gd [.int i]=some (.int i):=rfl
@[simp] theorem QDJ :Gd [.bl b]=some (.int (if b then 1 else 0)):=rfl
@[simp] theorem QDA:iy (.int 10) (.int 18)=some (.int 1000000000000000000):=by rfl
@[simp] theorem QDE:iy (.int 10) (.int 9)=some (.int 1000000000):=by rfl
@[simp] theorem gR  {xs:List α}{j:Nat}:atI xs (j:Int)=xs[j]?:=by
 unfold atI ixN;rw[if_pos (by omega)]
 by_cases  j<xs.length
 ·rw[if_pos (by omega)];simp
 ·rw[if_neg (by omega),jq (by omega)];rfl
def HR  {xs:List α}{i:Int}(h0:0<=i)(h1:i<xs.length):∃x,atI xs i=some x/\x∈xs:=by
 obtain⟨j,rfl⟩:=Int.eq_ofNat_of_zero_le h0
 have d:j<xs.length:=by omega
 exact⟨xs[j],by show atI xs (j:Int)=_;rw[gR,zt d],ja d⟩
section
variable {c:Prop}[Decidable c]
@[simp] theorem QB6{a b:Fl}:aY (if c then a else b)=if c then aY a else aY b:=by split<;>rfl
@[simp] theorem QBW{a b:Res D}:lq (if c then a else b)=if c then lq a else lq b:=by split<;>rfl
@[simp] theorem QCe{a b:Fl}{r:MS}:iG (if c then a else b) r=if c then iG a r else iG b r:=by split<;>rfl
@[simp] theorem QCV{α β:Type}{a b:Res α}{f:α->au->Res β}:(if c then a else b).bind f=if c then a.bind f else b.bind f:=by split<;>rfl
@[simp] theorem QDe{a b:Res Bool}{x y:MS}{ρ:aK}:ifF (if c then a else b) x y ρ=if c then ifF a x y ρ else ifF b x y ρ:=by split<;>rfl
@[simp] theorem QBT{a b:Res D}{i:Nat}{ρ:aK}:qy i (if c then a else b) ρ=if c then qy i a ρ else qy i b ρ:=by split<;>rfl
@[simp] theorem QC9{a b:Option D}{O:au}:ofO (if c then a else b) O=if c then ofO a O else ofO b O:=by split<;>rfl
end
@[simp] theorem Qzh:dg "str" "str" = true:=by decide
@[simp] theorem QDz:dg "int" "str" = false:=by decide
@[simp] theorem QDR:dg "bool" "str" = false:=by decide
@[simp] theorem QDG:dg "list" "str" = false:=by decide
@[simp] theorem QDQ:dg "tuple" "str" = false:=by decide
@[simp] theorem QDI:dg "dict" "str" = false:=by decide
@[simp] theorem QDC:dg "NoneType" "str" = false:=by decide
@[simp] theorem QDD:dg "int" "int" = true:=by decide
@[simp] theorem QDH:dg "int" "bool" = false:=by decide
@[simp] theorem QDn:dg "bool" "bool" = true:=by decide
@[simp] theorem QDq:dg "list" "list" = true:=by decide
@[simp] theorem QDf:dg "tuple" "tuple" = true:=by decide
@[simp] theorem QDa:dg "NoneType" "list" = false:=by decide
theorem ux   (m:Nat->aK->au->Prop):∀(ds:List D) (k:Nat) (ρ:aK) (O:au),m k ρ O ->
  (∀i d ρ O,ds[i]?=some d->m (k+i) ρ O->∃ρ1,g d ρ=some ρ1/\∃ρ2 t,(b ρ1 O=.nx ρ2 t\/b ρ1 O=.ct ρ2 t)/\m (k+i+1) ρ2 t)->∃f j,bj g b ds ρ O=.nx f j/\m (k+ds.length) f j
 | [],k,ρ,O,h,_=>⟨ρ,O,rfl,h⟩
 |d::ds,k,ρ,O,h,hs=>by
  obtain⟨ρ1,E,ρ2,t,u,h2⟩:=hs 0 d ρ O rfl h
  obtain⟨f,j,C,h3⟩:=ux m ds (k+1) ρ2 t h2 λi F f j y x=>by
   have:=hs (i+1) F f j (by simpa using y) (by rw[show k+(i+1)=k+1+i by omega];exact x)
   rw[show k+(i+1)+1=k+1+i+1 by omega] at this;exact this
  refine⟨f,j,?_,by rw[zw,show k+(ds.length+1)=k+1+ds.length by omega];exact h3⟩;unfold bj;rw[E];dsimp only
  rcases u with u | u<;>rw[u]<;>exact C
theorem HS    (j:aK->Prop)(f:D->D):∀(ds:List D) (ρ:aK) (O:au) (acc:List D),j ρ->(∀d∈ds,∀ρ,j ρ->∃ρ1,g d ρ=some ρ1/\j ρ1/\t ρ1 O=.ok true O/\m ρ1 O=.ok (f d) O)->b7 g t m ds ρ O acc=.ok (acc++ds.map f) O
 | [],ρ,O,acc,_,_=>by simp[b7]
 |d::ds,ρ,O,acc,h,hs=>by
  obtain⟨ρ1,C,h1,y,x⟩:=hs d zd ρ h;unfold b7;rw[C];dsimp only;rw[y];dsimp only;rw[x];dsimp only;rw[HS j f ds ρ1 O _ h1 λE u=>hs E (zm _ u)];simp
theorem HW{g:MG}{t:M Bool}{m:M D}(f:aK->Prop)(p:D->Bool):∀(ds:List D) (ρ:aK) (O:au) (acc:List D),f ρ->(∀d∈ds,∀ρ,f ρ->∃ρ1,g d ρ=some ρ1/\f ρ1/\t ρ1 O=.ok (p d) O/\m ρ1 O=.ok d O)->b7 g t m ds ρ O acc=.ok (acc++ds.filter p) O
 | [],ρ,O,acc,_,_=>by simp[b7]
 |d::ds,ρ,O,acc,h,hs=>by
  obtain⟨ρ1,C,h1,y,x⟩:=hs d zd ρ h
  have u:=λacc=>HW f p ds ρ1 O acc h1 λE j=>hs E (zm _ j)
  unfold b7;rw[C];dsimp only;rw[y]
  cases q:p d with
  |true =>
   dsimp only;rw[x];dsimp only;rw[u,List.filter_cons,q];simp
  |false =>
   dsimp only;rw[u,List.filter_cons,q];simp
@[simp] theorem QDB  :XS ρ O=.ok [] O:=rfl
@[simp] theorem QDi    :XX a b r ρ O=(a ρ O).bind λx j=>(b ρ j).bind λy f=>(r ρ f).bind λps d=>.ok ((x,y)::ps) d:=rfl
def diF(o:Option (List Key))(d:List (D×D))(O:au):Res D:=match o with
 |some f=>if f.Nodup/\d.length<=15 then .ok (.dic (d.map (·.1)) (d.map (·.2))) O else .no
 |none=>.no
@[simp] theorem QCZ   :diF (some ks) d O=if ks.Nodup/\d.length<=15 then .ok (.dic (d.map (·.1)) (d.map (·.2))) O else .no:=rfl
@[simp] theorem QDu   :X3 m ρ O=(m ρ O).bind λd f=>diF (keysOf d) d f:=rfl
@[simp] theorem QDl :keyOf (.int i)=some (.inl i):=rfl
@[simp] theorem QDo :keyOf (.str i)=some (.inr (S i)):=rfl
@[simp] theorem QBE:keysOf []=some []:=rfl
@[simp] theorem QAi  :keysOf ((a,b)::r)=(keyOf a).bind λk=>(keysOf r).map (k :: ·):=rfl
def joF(o:Option (List (List Nat)))(O:au):Res D:=match o with
 |some ls=>if(ls.map List.length).sum<=1000000 then .ok (.str ls.flatten) O else .no
 |none=>.no
@[simp] theorem HY  :joF (some ls) O=if(ls.map List.length).sum<=1000000 then .ok (.str ls.flatten) O else .no:=rfl
def jdF(d:D)(O:au):Res D:=match d with
 | .lst ds=>joF (fG ds) O
 | _=>.no
@[simp] theorem H9  :jdF (.lst ds) O=joF (fG ds) O:=rfl
@[simp] theorem Ia   :jC m ρ O=(m ρ O).bind λd f=>jdF (aV f d) f:=rfl
theorem uy{α:Type}{f:α->List Nat}:∀l:List α,fG (l.map λx=>.str (f x))=some (l.map f)
 | []=>rfl
 |x::l=>by
  show(fG _).map _=_;rw[uy];rfl
@[simp] theorem QEs   :dM own cap ρ=List.replicate own none++cap.map λj=>(ρ[j]?).join:=rfl
@[simp] theorem QBP      :b7 g t m [] ρ O acc=.ok acc O:=rfl
theorem oH:∀ds:List D,kJ ds=ds.map toP
 | []=>rfl
 |d::ds=>by rw[kJ,oH];rfl
theorem uz:∀{ds:List D},(∀d∈ds,gk d=true)->lU ds=true
 | [],_=>rfl
 |d::ds,h=>by rw[lU,h d zd,uz λx hx=>h x (zm _ hx)];rfl
def Ib  (f:n<60)  (h:∀d∈ds,gk d=true/\(toP d).canLay0=true/\(toP d).depth<=n):okE (.lst ds)=true:=by
 unfold okE;rw[zD];refine⟨?_,?_⟩
 ·exact uz λd hd=>(h d hd).1
 ·rw[toP,oH]
  refine Uz f λd hd=>?_
  obtain⟨x,hx,rfl⟩:=zz.mp hd;exact(h x hx).2
def Ie  (h:∀c∈l,c<1114112):(PyData.str (S l)).canLay0=true:=by
 show PyData.strOk _=true;unfold PyData.strOk S;simp;exact h
def Ig  (h:okE d=true):lV d d=true:=by
 unfold okE at h;rw[zD] at h
 have:=h.2
 unfold okD at this;rw[zD] at this;exact SeqAt.eqv_refl _ this.1
def it(f:Int->Int):Nat->Int->Int
 | 0,x=>x
 |n+1,x=>f (it f n x)
def mix(n k:Int):Int:=if n>1000000000000000000 then it (λr=>r / 1000000000) k.toNat n % 1000000000
 else
  let m:=it (λm=>(m * 48271+104729) % 2147483629) (k+2).toNat (n % 2147483647+7919)
  m * m % 998244353 / 11
def Ih(j:Nat)(x:Int)(h0:0<=x)(h1:x<2147491566):0<=it (λm=>(m * 48271+104729) % 2147483629) j x/\it (λm=>(m * 48271+104729) % 2147483629) j x<2147491566:=by
 induction j with
 |zero=>exact⟨h0,h1⟩
 |succ j ih =>
  refine⟨js _ (by decide),?_⟩
  have:=ju (it (λm=>(m * 48271+104729) % 2147483629) j x * 48271+104729) (show(0:Int)<2147483629 by decide)
  show(it (λm=>(m * 48271+104729) % 2147483629) j x * 48271+104729) % 2147483629<_;omega
def ye:MS:=(aq (aJ (az (ak gGt (aa 0) (ak iy (mC (.int 10)) (mC (.int 18))))) (aq (aB 2 (mG (aa 0)))
  (aq (bW (eE (aj (aa 1) ao)) (mgN 3) (aB 2 (ak kE (aa 2) (ak iy (mC (.int 10)) (mC (.int 9))))))
  (aA (ak b8 (aa 2) (ak iy (mC (.int 10)) (mC (.int 9))))))) aM)
  (aq (aB 4 (ak aH (ak b8 (aa 0) (mC (.int 2147483647))) (mC (.int 7919))))
  (aq (bW (eE (aj (ak aH (aa 1) (mC (.int 2))) ao)) (mgN 3) (aB 4 (ak b8 (ak aH (ak gP (aa 4) (mC (.int 48271))) (mC (.int 104729))) (mC (.int 2147483629)))))
  (aA (ak kE (ak b8 (ak gP (aa 4) (aa 4)) (mC (.int 998244353))) (mC (.int 11)))))))
def Ii(lo:Int)(n:Nat):(fY lo n).length=n:=by simp[fY]
def QyG(n k:Int)(h0:0<=k)(h1:k<=1000000)(O:au):aG 5 ye [.int n,.int k] O=.ok (.int (mix n k)) O:=by
 unfold mix
 by_cases E:n>1000000000000000000
 ·obtain⟨C,t,e,rfl,f,rfl⟩:=ux (g:=mgN 3) (b:=aB 2 (ak kE (aa 2) (ak iy (mC (.int 10)) (mC (.int 9)))))
   (λi ρ t=>t=O/\∃f,ρ=[some (.int n),some (.int k),some (.int (it (λr=>r / 1000000000) i n)),f,none]) (fY 0 k.toNat) 0 [some (.int n),some (.int k),some (.int n),none,none] O ⟨rfl,none,rfl⟩ (by
    rintro i d ρ t hi ⟨rfl,f,rfl⟩;refine⟨_,rfl,?_⟩;simp;rw[show it (λr=>r / 1000000000) (i+1) n=it (λr=>r / 1000000000) i n / 1000000000 from rfl]
    exact⟨_,_,⟨rfl,rfl⟩,rfl,_,rfl⟩)
  rw[Ii,jo] at e
  have y:k<=1000000000/\-1000000000<=k:=by omega
  simp[ye,E,y,e]
 ·have x:0<=n % 2147483647+7919:=by have:=js n (show(2147483647:Int)≠0 by decide);omega
  have u:n % 2147483647+7919<2147491566:=by have:=ju n (show(0:Int)<2147483647 by decide);omega
  obtain⟨C,t,e,rfl,f,rfl⟩:=ux (g:=mgN 3) (b:=aB 4 (ak b8 (ak aH (ak gP (aa 4) (mC (.int 48271))) (mC (.int 104729))) (mC (.int 2147483629))))
   (λi ρ t=>t=O/\∃f,ρ=[some (.int n),some (.int k),none,f,some (.int (it (λm=>(m * 48271+104729) % 2147483629) i (n % 2147483647+7919)))]) (fY 0 (k+2).toNat) 0 [some (.int n),some (.int k),none,none,some (.int (n % 2147483647+7919))] O ⟨rfl,none,rfl⟩ (by
    rintro i d ρ t hi ⟨rfl,f,rfl⟩;refine⟨_,rfl,?_⟩;obtain⟨I,G⟩:=Ih i _ x u
    have:=HD (i:=it (λm=>(m * 48271+104729) % 2147483629) i (n % 2147483647+7919)) (j:=48271) (.inr ⟨by decide,by decide⟩)
    simp[this]
    rw[show it (λm=>(m * 48271+104729) % 2147483629) (i+1) (n % 2147483647+7919)=(it (λm=>(m * 48271+104729) % 2147483629) i (n % 2147483647+7919) * 48271+104729) % 2147483629 from rfl]
    exact⟨_,_,⟨rfl,rfl⟩,rfl,_,rfl⟩)
  rw[Ii,jo] at e
  have y:k+2<=1000000000/\-1000000000<=k+2:=by omega
  obtain⟨I,G⟩:=Ih (k+2).toNat _ x u;have F:=HD (i:=it (λm=>(m * 48271+104729) % 2147483629) (k+2).toNat (n % 2147483647+7919)) (j:=it (λm=>(m * 48271+104729) % 2147483629) (k+2).toNat (n % 2147483647+7919)) (.inl ⟨by omega,by omega⟩);simp[ye,E,y,e,F]
def dR(j:List Str)(f:Str)(d:D)(O:au):Res D:=match d with
 | .ob n=>match O[n]? with
  |some (.ins c fs)=>if c∈j then match fs.lookup f with
   |some y=>.ok y O
   |none=>.no else .no
  | _=>.no
 | _=>.no
@[simp] theorem Ij     :bf d f m ρ O=(m ρ O).bind (dR d f):=rfl
def puF(j:List Str)(f:Str)(d:D)(ρ:aK)(r:Res D):Fl:=match r with
 | .ok (.ob n) O2=>match O2[n]? with
  |some (.ins c fs)=>if c∈j/\fs.length<900 then .nx ρ (O2.set n (.ins c (putD f d fs))) else .no
  | _=>.no
 | _=>.no
def sfF(j:List Str)(f:Str)(mo:M D)(r:Res D)(ρ:aK):Fl:=match r with
 | .ok d O1=>puF j f d ρ (mo ρ O1)
 | .ex x O'=>.ex x O'
 | .no=>.no
@[simp] theorem yg     :bF j f mo d ρ O=sfF j f mo (d ρ O) ρ:=by
 unfold bF sfF puF
 cases d ρ O<;>rfl
@[simp] theorem yh      :sfF j f mo (.ok d O) ρ=puF j f d ρ (mo ρ O):=rfl
def meF(c m:Str)(cf:List D->au->Res D)(ma:au->Res (List D))(d:D)(f:au):Res D:=match d with
 | .ob n=>match f[n]? with
  |some (.ins c' fs)=>if c'=c/\(fs.lookup m).isNone=true then(ma f).bind λj t=>cf (.ob n::j) t else .no
  | _=>.no
 | _=>.no
@[simp] theorem uA      :aQ c m cf mo ma ρ O=(mo ρ O).bind (meF c m cf (ma ρ)):=rfl
def mkF(n:Nat)(r:Res D):Res D:=match r with
 | .ok .non O2=>.ok (.ob n) O2
 | .ok _ _=>.no
 | .ex x O2=>.ex x O2
 | .no=>.no
@[simp] theorem Ik     :dh c cf ma ρ O=(ma ρ O).bind λds d=>mkF d.length (cf (.ob d.length::ds) (d++[.ins c []])):=by
 unfold dh;congr 1
@[simp] theorem Il  :mkF n (.ok .non O)=.ok (.ob n) O:=rfl
def apF(i:Nat)(r:Res D)(ρ:aK):Fl:=match r with
 | .ok d O'=>match ρ[i]? with
  |some (some (.lst ds))=>if ds.length<1000000 then .nx (ρ.set i (some (.lst (ds++[d])))) O' else .no
  | _=>.no
 | .ex x O'=>.ex x O'
 | .no=>.no
@[simp] theorem yj    :eG i m ρ O=apF i (m ρ O) ρ:=rfl
def ym      (h:ρ[i]?=some (some (.lst ds)))(f:ds.length<1000000):apF i (.ok d O) ρ=.nx (ρ.set i (some (.lst (ds++[d])))) O:=by
 unfold apF;rw[h];dsimp ;rw[if_pos f]
def exF(i:Nat)(r:Res D)(ρ:aK):Fl:=match r with
 | .ok d O'=>match ρ[i]?,aV O' d with
  |some (some (.lst ds)),.lst es=>if ds.length+es.length<=1000000 then .nx (ρ.set i (some (.lst (ds++es)))) O' else .no
  | _,_=>.no
 | .ex x O'=>.ex x O'
 | .no=>.no
@[simp] theorem Im    :gq i m ρ O=exF i (m ρ O) ρ:=rfl
def Io     (h:ρ[i]?=some (some (.lst ds)))(d:ds.length+es.length<=1000000):exF i (.ok (.lst es) O) ρ=.nx (ρ.set i (some (.lst (ds++es)))) O:=by
 unfold exF;rw[h];dsimp ;rw[if_pos d]
def enF(d:D)(f:au):Res (List D):=match d with
 | .lst ds=>.ok (cQ 0 ds) f
 | .str l=>if ascii l=true then .ok (cQ 0 (cA l)) f else .no
 | _=>.no
@[simp] theorem QDS   :nW m ρ O=(m ρ O).bind enF:=rfl
def Ip   (h:ascii l=true):enF (.str l) O=.ok (cQ 0 (cA l)) O:=by
 show(if ascii l=true then _ else _)=_;rw[if_pos h]
def asF(r:Res D)(g:MG)(ρ:aK):Fl:=match r with
 | .ok d O'=>match g d ρ with
  |some f=>.nx f O'
  |none=>.no
 | .ex x O'=>.ex x O'
 | .no=>.no
@[simp] theorem QxU    :pY m g ρ O=asF (m ρ O) g ρ:=rfl
def Qy8     (h:g d ρ=some f):asF (.ok d O) g ρ=.nx f O:=by
 unfold asF;dsimp ;rw[h]
@[simp] theorem QCp   :cW 2 (bB (mgN i) (bB (mgN j) dC)) (.tup [a,b]) ρ=some ((ρ.set i (some a)).set j (some b)):=rfl
def stF(a b:D)(O:au):Res D:=match a,b with
 | .str l,.str n=>.ok (.bl (decide (l.take n.length=n))) O
 | _,_=>.no
@[simp] theorem QsZ   :nR a b ρ O=(a ρ O).bind λx f=>(b ρ f).bind λy d=>stF x y d:=rfl
@[simp] theorem QEd  :stF (.str l) (.str n) O=.ok (.bl (decide (l.take n.length=n))) O:=rfl
theorem Ir   (f:Nat->aK->au->Prop):∀(n:Nat) (k:Nat) (ρ:aK) (O:au),k<n->f k ρ O ->
  (∀k ρ O,f (k+1) ρ O->t ρ O=.ok true O/\∃j ρ2 m,j<=k/\b ρ O=.nx ρ2 m/\f j ρ2 m)->(∀ρ O,f 0 ρ O->t ρ O=.ok false O)->∃d u,dD t b n ρ O=.nx d u/\f 0 d u
 | 0,k,ρ,O,hk,_,_,_=>absurd hk (Nat.not_lt_zero _)
 |n+1,0,ρ,O,_,h,_,h0=>by
  refine⟨ρ,O,?_,h⟩;unfold dD;rw[h0 ρ O h]
 |n+1,k+1,ρ,O,hk,h,hs,h0=>by
  obtain⟨C,j,ρ2,m,E,y,h2⟩:=hs k ρ O h;obtain⟨d,u,x,h3⟩:=Ir f n j ρ2 m (by omega) h2 hs h0;refine⟨d,u,?_,h3⟩;unfold dD;rw[C];dsimp only;rw[y];exact x
theorem iH{α:Type}{g:MG}{t:M Bool}{m:M D}(d:aK->Prop)(f h:α->D):∀(xs:List α) (ρ:aK) (O:au) (acc:List D),d ρ->(∀x∈xs,∀ρ,d ρ->∃ρ1,g (f x) ρ=some ρ1/\d ρ1/\t ρ1 O=.ok true O/\m ρ1 O=.ok (h x) O)->b7 g t m (xs.map f) ρ O acc=.ok (acc++xs.map h) O
 | [],ρ,O,acc,_,_=>by simp
 |x::xs,ρ,O,acc,hp,hs=>by
  obtain⟨ρ1,C,h1,y,u⟩:=hs x zd ρ hp;rw[zg];unfold b7;rw[C]
  dsimp
  rw[y]
  dsimp
  rw[u]
  dsimp
  rw[iH d f h xs _ O _ h1 λE j=>hs E (zm _ j)];simp
def jL:List Nat:=[101,110,100]
def oJ:List Nat:=[97,110,101,119]
def jM:List Nat:=[112,108,97,105,110]
def bu:List Nat:=[115,105,103,110]
def eX:List Nat:=[105,110,107]
def fJ:List Nat:=[103,114,111,117,110,100]
def item(p:Int)(k v:List Nat):D:=.tup [.int p,.str k,.str v]
def col(c:Nat):Bool:=decide (c∈[97,98,99,100,101,102,103,104,46])
def oK  (h:col c=true):c≠91/\c≠93/\c≠47/\c≠10/\c≠9:=by
 have :=zP h
 have q:∀c∈[97,98,99,100,101,102,103,104,46],c≠91/\c≠93/\c≠47/\c≠10/\c≠9:=by decide
 exact q c this
def iI(x:Nat):List Nat->List Nat×List Nat×Nat
 | []=>(bu,[91],0)
 |e::_=>if e=93 then(fJ,[x],3) else(bu,[91],0)
def iJ:List Nat->List Nat×List Nat×Nat
 | []=>(bu,[91],0)
 |x::t=>if col x=true then iI x t else(bu,[91],0)
def jN(x:Nat):List Nat->List Nat×List Nat×Nat
 | []=>(bu,[91],0)
 |e::_=>if e=93 then(eX,[x],2) else(bu,[91],0)
def dF:List Nat->List Nat×List Nat×Nat
 | []=>(bu,[91],0)
 |d::t=>if d=93 then(jM,[],1) else if d=91 then(bu,[91],1) else if col d=true then jN d t else if d=47 then iJ t else(bu,[91],0)
def one(c:Nat)(t:List Nat):List Nat×List Nat×Nat :=
 if c=10 then(jL,[],0) else if c=9 then(oJ,[],0) else if c=91 then dF t else(bu,[c],0)
def items(p:Int):List Nat->List D
 | []=>[]
 |c::t=>item p (one c t).1 (one c t).2.1::items (p+((one c t).2.2+1:Nat)) (t.drop (one c t).2.2)
termination_by l=>l.length
decreasing_by
 simp only[List.length_drop,zw];omega
def gD(p:Int):items p []=[]:=by rw[items]
def jO(p:Int)(c:Nat)(t:List Nat):items p (c::t)=item p (one c t).1 (one c t).2.1::items (p+((one c t).2.2+1:Nat)) (t.drop (one c t).2.2):=by rw[items]
def own(p:Int)(c:Nat):D:=if c=10 then item p jL [] else if c=9 then item p oJ [] else item p bu [c]
def owns:Int->List Nat->List D
 | _,[]=>[]
 |p,c::l=>own p c::owns (p+1) l
def dG    (h:c≠91):items p (c::t)=own p c::items (p+1) t:=by
 rw[jO];unfold one own
 by_cases h1:c=10
 ·simp[h1]
 ·by_cases h2:c=9
  ·simp[h2]
  ·simp[h1,h2,h]
def gU   (h:dF t=(bu,[91],0)):items p (91::t)=own p 91::items (p+1) t:=by
 rw[jO]
 have:one 91 t=(bu,[91],0):=h
 rw[this];rfl
def uB     (h:dF t=(k,v,n)):items p (91::t)=item p k v::items (p+(n+1:Nat)) (t.drop n):=by
 rw[jO]
 have:one 91 t=(k,v,n):=h
 rw[this]
def cM:List Nat->Bool
 | [a]=>decide (a=91)
 | [a,b]=>decide (a=91)&&(decide (b=47) || col b)
 | [a,b,c]=>decide (a=91)&&(decide (b=47)&&col c)
 | _=>false
def markB:List Nat->Option (List Nat×List Nat)
 | [a,b]=>if a=91/\b=93 then some (jM,[]) else if a=91/\b=91 then some (bu,[91]) else none
 | [a,b,c]=>if a=91/\col b=true/\c=93 then some (eX,[b]) else none
 | [a,b,c,d]=>if a=91/\b=47/\col c=true/\d=93 then some (fJ,[c]) else none
 | _=>none
def tk(h:List Nat)(c:Nat)(p:Int):List D×List Nat :=
 if cM (h++[c])=true then([],h++[c]) else match markB (h++[c]) with
 |some (k,v)=>([item p k v],[])
 |none=>if c=91 then(owns p h,[91]) else(owns p (h++[c]),[])
inductive bA:List Nat->Prop where
 | h0:bA []
 | h1:bA [91]
 | h2:bA [91,47]
 | h3 (x:Nat) (h:col x=true):bA [91,x]
 | h4 (x:Nat) (h:col x=true):bA [91,47,x]
def bA.len  (H:bA h):h.length<=3:=by cases H<;>simp
def yo:col 91=false:=by decide
def Iu:col 93=false:=by decide
theorem jP:col 47=false:=by decide
def yp  (H:bA h)(c:Nat)(p:Int)(rest:List Nat):
  bA (tk h c p).2/\items p (h++c::rest)=(tk h c p).1++items (p+h.length+1 - (tk h c p).2.length) ((tk h c p).2++rest):=by
 cases H with
 |h0 =>
  by_cases h1:c=91
  ·subst h1;refine⟨bA.h1,?_⟩;simp[tk,cM]
  ·have:tk [] c p=([own p c],[]):=by simp[tk,cM,markB,h1,owns]
   rw[this];refine⟨bA.h0,?_⟩;simp[dG h1]
 |h1 =>
  by_cases h2:c=93
  ·subst h2
   have:tk [91] 93 p=([item p jM []],[]):=by simp[tk,cM,markB,Iu]
   rw[this];refine⟨bA.h0,?_⟩;show items p (91::93::rest)=_;rw[uB (k:=jM) (v:=[]) (n:=1) rfl];simp[Int.add_assoc]
  ·by_cases h1:c=91
   ·subst h1
    have:tk [91] 91 p=([item p bu [91]],[]):=by simp[tk,cM,markB,yo]
    rw[this];refine⟨bA.h0,?_⟩;show items p (91::91::rest)=_;rw[uB (k:=bu) (v:=[91]) (n:=1) rfl];simp[Int.add_assoc]
   ·by_cases h3:c=47
    ·subst h3
     have:tk [91] 47 p=([],[91,47]):=by simp[tk,cM]
     rw[this];exact⟨bA.h2,by simp;congr 1;omega⟩
    ·by_cases h4:col c=true
     ·have:tk [91] c p=([],[91,c]):=by simp[tk,cM,h4]
      rw[this];exact⟨bA.h3 c h4,by simp;congr 1;omega⟩
     ·have:tk [91] c p=([own p 91,own (p+1) c],[]):=by simp[tk,cM,markB,h1,h2,h3,h4,owns]
      rw[this];refine⟨bA.h0,?_⟩;show items p (91::c::rest)=_;rw[gU (by simp[dF,h1,h2,h3,h4]),dG h1];simp
 |h2 =>
  by_cases h4:col c=true
  ·have:tk [91,47] c p=([],[91,47,c]):=by simp[tk,cM,h4]
   rw[this];exact⟨bA.h4 c h4,by simp;congr 1;omega⟩
  ·by_cases h1:c=91
   ·subst h1
    have:tk [91,47] 91 p=([own p 91,own (p+1) 47],[91]):=by simp[tk,cM,markB,jP,yo,owns]
    rw[this];refine⟨bA.h1,?_⟩;show items p (91::47::91::rest)=_;rw[gU (by simp[dF,iJ,jP,yo]),dG (by decide)];simp;congr 1;omega
   ·have:tk [91,47] c p=([own p 91,own (p+1) 47,own (p+1+1) c],[]):=by simp[tk,cM,markB,h1,h4,jP,owns]
    rw[this];refine⟨bA.h0,?_⟩;show items p (91::47::c::rest)=_;rw[gU (by simp[dF,iJ,jP,h4]),dG (by decide),dG h1];simp;congr 1;omega
 |h3 x hx =>
  obtain⟨d,f,j,t,m⟩:=oK hx
  by_cases h2:c=93
  ·subst h2
   have:tk [91,x] 93 p=([item p eX [x]],[]):=by simp[tk,cM,markB,Iu,hx]
   rw[this];refine⟨bA.h0,?_⟩;show items p (91::x::93::rest)=_;rw[uB (k:=eX) (v:=[x]) (n:=2) (by simp[dF,jN,d,f,hx])];simp;congr 1;omega
  ·by_cases h1:c=91
   ·subst h1
    have:tk [91,x] 91 p=([own p 91,own (p+1) x],[91]):=by simp[tk,cM,markB,j,owns]
    rw[this];refine⟨bA.h1,?_⟩;show items p (91::x::91::rest)=_;rw[gU (by simp[dF,jN,d,f,hx]),dG d];simp;congr 1;omega
   ·have:tk [91,x] c p=([own p 91,own (p+1) x,own (p+1+1) c],[]):=by simp[tk,cM,markB,h1,h2,j,owns]
    rw[this];refine⟨bA.h0,?_⟩;show items p (91::x::c::rest)=_;rw[gU (by simp[dF,jN,d,f,hx,h2]),dG d,dG h1];simp;congr 1;omega
 |h4 x hx =>
  obtain⟨d,f,j,t,m⟩:=oK hx
  by_cases h2:c=93
  ·subst h2
   have:tk [91,47,x] 93 p=([item p fJ [x]],[]):=by simp[tk,cM,markB,hx]
   rw[this];refine⟨bA.h0,?_⟩;show items p (91::47::x::93::rest)=_;rw[uB (k:=fJ) (v:=[x]) (n:=3) (by simp[dF,iJ,iI,jP,hx])];simp;congr 1;omega
  ·by_cases h1:c=91
   ·subst h1
    have:tk [91,47,x] 91 p=([own p 91,own (p+1) 47,own (p+1+1) x],[91]):=by simp[tk,cM,markB,owns]
    rw[this];refine⟨bA.h1,?_⟩;show items p (91::47::x::91::rest)=_;rw[gU (by simp[dF,iJ,iI,jP,hx]),dG (by decide),dG d];simp;congr 1;omega
   ·have:tk [91,47,x] c p=([own p 91,own (p+1) 47,own (p+1+1) x,own (p+1+1+1) c],[]):=by simp[tk,cM,markB,h1,h2,owns]
    rw[this];refine⟨bA.h0,?_⟩;show items p (91::47::x::c::rest)=_;rw[gU (by simp[dF,iJ,iI,jP,hx,h2]),dG (by decide),dG d,dG h1];simp;congr 1;omega
def Qpj  (H:bA h)(p:Int):items p h=owns p h:=by
 cases H with
 |h0=>rw[gD];rfl
 |h1=>rw[gU rfl,gD];rfl
 |h2=>rw[gU rfl,dG (by decide),gD];rfl
 |h3 x hx =>
  obtain⟨d,f⟩:=oK hx;rw[gU (by simp[dF,jN,d,f]),dG d,gD];rfl
 |h4 x hx =>
  obtain⟨d⟩:=oK hx;rw[gU (by simp[dF,iJ,iI,jP]),dG (by decide),dG d,gD];rfl
def aZ:List Nat->Int->List Nat->List D×List Nat
 |h,_,[]=>([],h)
 |h,p,c::t=>((tk h c (p - h.length)).1++(aZ (tk h c (p - h.length)).2 (p+1) t).1,(aZ (tk h c (p - h.length)).2 (p+1) t).2)
theorem Iv:∀(t:List Nat) {h:List Nat} (_:bA h) (p:Int) (rest:List Nat),bA (aZ h p t).2/\items (p - h.length) (h++(t++rest))=(aZ h p t).1++items (p+t.length - (aZ h p t).2.length) ((aZ h p t).2++rest)
 | [],h,H,p,rest=>⟨H,by simp[aZ]⟩
 |c::t,h,H,p,rest=>by
  obtain⟨a,b⟩:=yp H c _ _;obtain⟨a2,f⟩:=Iv t a _ _;refine⟨a2,?_⟩;show items _ (h++c::(t++rest))=_;rw[b]
  have e:p - h.length+h.length+1 - (tk h c (p - h.length)).2.length=p+1 - (tk h c (p - h.length)).2.length:=by omega
  rw[e,f];show _=(tk h c _).1++(aZ _ _ t).1++items (p+(c::t).length - (aZ _ _ t).2.length) ((aZ _ _ t).2++rest);rw[zB]
  have d:p+1+t.length=p+(c::t).length:=by simp;omega
  rw[d]
def Iw(t:List Nat):bA (aZ [] 0 t).2/\items 0 t=(aZ [] 0 t).1++owns (t.length - (aZ [] 0 t).2.length) (aZ [] 0 t).2:=by
 obtain⟨a,b⟩:=Iv t bA.h0 0 [];refine⟨a,?_⟩;simp at b;rw[b,Qpj a]
@[simp] theorem Qw8 :lW [.lst l]=some (.lst l):=rfl
def fzF(f:Fl):Fl:=match f with
 | .rt d O'=>.rt d O'
 | _=>.no
@[simp] theorem QD2   :qb m ρ O=fzF (m ρ O):=rfl
@[simp] theorem QDO  :fzF (.rt d O)=.rt d O:=rfl
def ziF(d e:D)(O:au):Res (List D):=match d,e with
 | .lst ds,.lst es=>.ok (tL ds es) O
 | _,_=>.no
@[simp] theorem QEo   :Gv ma mb ρ O=(ma ρ O).bind λd j=>(mb ρ j).bind λe f=>ziF d e f:=by
 unfold Gv;congr 1
@[simp] theorem QEk  :ziF (.lst ds) (.lst es) O=.ok (tL ds es) O:=rfl
end L2
namespace L2
open PySem
def fK(h:a ρ O=.nx d f):aq a b ρ O=b d f:=by rw[eV,h,jK]
def uC(h:a ρ O=.rt d f):aq a b ρ O=.rt d f:=by rw[eV,h,QvR]
def cO(h:m ρ O=.rt d f):msN m ρ O=.rt d f:=by unfold msN;rw[h]
end L2
namespace K57
open PySem L2
abbrev kS(l:List Nat):=mC (.str l)
abbrev kI(i:Int):=mC (.int i)
seal VE SE OE WE TsE TwE AE VS VSs VG VGs VI VIc VO VIf DPE
noncomputable def top(i:Nat):Stmt:=PySem.Challenge.pw_outweave_k57_whole_no_row_leaks.main.body.getD i (.Pass ⟨0,0,0,0⟩)
abbrev QqW:=top 17
abbrev Iz:=top 18
abbrev QnL:=top 19
abbrev QsE:=top 20
abbrev Qsd:=top 22
abbrev Qih:=top 23
abbrev Qpk:=top 24
abbrev IK:=top 25
abbrev Qij:=inClass (top 26) 0
abbrev QlA:=inClass (top 26) 4
abbrev Qlo:=inClass (top 26) 1
abbrev Qji:=inClass (top 26) 3
abbrev Qpf:=top 27
abbrev Qrk:=top 28
abbrev Qlq:=top 31
abbrev QpB:=top 33
abbrev QnA:=top 34
abbrev Qii:=inClass (top 37) 5
abbrev QiQ:=inClass (top 37) 0
abbrev Qmf:=inClass (top 37) 8
abbrev Qhh:=inClass (top 37) 6
abbrev QhF:=inClass (top 37) 7
abbrev QnP:=inClass (top 37) 1
abbrev Qi7:=inClass (top 37) 3
abbrev Qkt:=inClass (top 37) 4
abbrev Qjc:=inClass (top 39) 0
abbrev QgN:=inClass (top 39) 5
abbrev QkA:=inClass (top 39) 6
abbrev QnG:=inClass (top 39) 1
abbrev Qnz:=inClass (top 39) 2
abbrev Qsn:=top 40
abbrev QnI:=top 42
abbrev IV:=top 43
abbrev Qn1:=top 46
abbrev uD:=top 47
abbrev Qjx:=inClass (top 56) 2
abbrev IW:=inClass (top 56) 3
abbrev Qqd:=top 54
abbrev QjL:=top 55
abbrev QhR:=inClass (top 56) 4
abbrev Qj7:=inClass (top 56) 5
abbrev Qln:=top 48
abbrev Qus:=top 49
abbrev Ja:=top 50
abbrev QhK:=inClass (top 56) 1
abbrev Quh:=top 51
abbrev Jb:=top 53
abbrev Qi0:=inClass (top 56) 0
abbrev Qnu:=top 57
abbrev QtU:=top 58
abbrev QqA:=top 59
abbrev Qlv:=top 62
abbrev QkC:=top 63
abbrev Jc:=top 64
abbrev Jd:=inClass (top 65) 0
abbrev QjU:=inClass (top 65) 5
abbrev QnY:=inClass (top 65) 1
abbrev QlV:=inClass (top 65) 2
abbrev QiG:=inClass (top 65) 3
abbrev Qpy:=top 67
abbrev QkG:=top 68
abbrev Qqk:=top 69
abbrev Je:=top 70
abbrev Qqf:=top 72
abbrev Qrx:=top 73
abbrev Qpv:=top 74
abbrev QnM:=top 75
abbrev qG:=top 76
abbrev Jf:=top 77
abbrev Jg:=top 78
abbrev Qp8:=top 79
abbrev gG:=top 80
structure Fc(Pr:Program)(w:World)(K:Frag)(mg:Str->Option Value)(base:Heap):Prop where
 f0:Def K mg "is_sign" QqW
 B:Zu mg
 NK:kZ K=true
 f3:∃u,mg "FIRST_SIGN" = some u/\RelV (.str (S [32])) u
 f4:∃u,mg "LAST_SIGN" = some u/\RelV (.str (S [125])) u
 f5:Def K mg "is_name" Iz
 f6:∃u,mg "LONGEST_NAME" = some u/\RelV (.int 8) u
 f7:Def K mg "is_colour" QnL
 f8:∃u,mg "COLOURS" = some u/\RelV (.str (S [97,98,99,100,101,102,103,104,46])) u
 f9:Def K mg "checked" QsE
 f10:∃u,mg "ANEW_SIGN" = some u/\RelV (.str (S [9])) u
 f11:∃u,mg "ROW_END" = some u/\RelV (.str (S [10])) u
 f12:Def K mg "mark_of" Qsd
 f13:Def K mg "may_become_mark" Qih
 f14:Def K mg "own_item" Qpk
 f15:Def K mg "own_items" IK
 f16:nU K mg "Reader" "Reader.__init__" Qij
 f17:KC K mg "Reader" "held"
 f18:KC K mg "Reader" "place"
 f19:cD K mg "Reader" "take" "Reader.take" QlA
 f20:cD K mg "Reader" "feed" "Reader.feed" Qlo
 f21:cD K mg "Reader" "finish" "Reader.finish" Qji
 f22:Def K mg "items_of" Qpf
 f23:Def K mg "written" Qrk
 f24:Def K mg "pair_behind" Qlq
 f25:tO K mg "PLAIN" [[46],[46]]
 f26:Def K mg "is_whole" QpB
 f27:Def K mg "is_within" QnA
 f28:cD K mg "Maker" "begin_row" "Maker.begin_row" Qii
 f29:KC K mg "Maker" "letters"
 f30:KC K mg "Maker" "pair"
 f31:KC K mg "Maker" "stale"
 f32:nU K mg "Maker" "Maker.__init__" QiQ
 f33:∃u,mg "GREATEST_MOST" = some u/\RelV (.int 200) u
 f34:KC K mg "Maker" "most"
 f35:KC K mg "Maker" "last_word"
 f36:cD K mg "Maker" "tell" "Maker.tell" Qmf
 f37:cD K mg "Maker" "empty_stale" "Maker.empty_stale" Qhh
 f38:cD K mg "Maker" "add_letter" "Maker.add_letter" QhF
 f39:cD K mg "Maker" "put" "Maker.put" QnP
 f40:cD K mg "Maker" "going_on" "Maker.going_on" Qi7
 f41:cD K mg "Maker" "finish" "Maker.finish" Qkt
 f42:nU K mg "Hand" "Hand.__init__" Qjc
 f43:KC K mg "Hand" "name"
 f44:KC K mg "Hand" "reader"
 f45:KC K mg "Hand" "maker"
 f46:KC K mg "Hand" "closed"
 f47:cD K mg "Hand" "refuse_closed" "Hand.refuse_closed" QgN
 f48:cD K mg "Hand" "put_all" "Hand.put_all" QkA
 f49:cD K mg "Hand" "feed" "Hand.feed" QnG
 f50:cD K mg "Hand" "close" "Hand.close" Qnz
 f51:Def K mg "of_name" Qsn
 f52:Def K mg "shown_ink" QnI
 f53:Def K mg "look" IV
 f54:Def K mg "cost_over" Qn1
 f55:Def K mg "least_cost" uD
 f56:cD K mg "Leaps" "last_at" "Leaps.last_at" Qjx
 f57:KC K mg "Leaps" "look"
 f58:cD K mg "Leaps" "nodes_at" "Leaps.nodes_at" IW
 f59:KC K mg "Leaps" "inks"
 f60:Def K mg "marks_to" Qqd
 f61:Def K mg "marks_between" QjL
 f62:cD K mg "Leaps" "moves_from" "Leaps.moves_from" QhR
 f63:cD K mg "Leaps" "is_end" "Leaps.is_end" Qj7
 f64:Def K mg "price_nodes" Qln
 f65:Def K mg "priced" Qus
 f66:Def K mg "first_cheapest" Ja
 f67:cD K mg "Leaps" "first_node" "Leaps.first_node" QhK
 f68:Def K mg "way_of" Quh
 f69:Def K mg "colours_of" Jb
 f70:nU K mg "Leaps" "Leaps.__init__" Qi0
 f71:Def K mg "shaded_way" Qnu
 f72:Def K mg "shaded" QtU
 f73:Def K mg "unshaded" QqA
 f74:Def K mg "check_names" Qlv
 f75:∃u,mg "MOST_HANDS" = some u/\RelV (.int 6) u
 f76:Def K mg "number_ahead" QkC
 f77:Def K mg "head_of" Jc
 f78:xX K mg "Roll" "Roll.__init__" Jd #[(.bool false)]
 f79:KC K mg "Roll" "names"
 f80:KC K mg "Roll" "numbered"
 f81:KC K mg "Roll" "rows"
 f82:KC K mg "Roll" "hands"
 f83:cD K mg "Roll" "add_rows" "Roll.add_rows" QjU
 f84:cD K mg "Roll" "feed" "Roll.feed" QnY
 f85:cD K mg "Roll" "close" "Roll.close" QlV
 f86:cD K mg "Roll" "told_rows" "Roll.told_rows" QiG
 f87:Def K mg "heads_of" Qpy
 f88:Def K mg "look_or_none" QkG
 f89:Def K mg "read_row" Qqk
 f90:xV K mg "unroll" Je #[(.bool false)]
 f91:Def K mg "_law_cell" Qqf
 f92:Def K mg "_law_mix" Qrx
 f93:Def K mg "_law_item" Qpv
 f94:Def K mg "_law_items" QnM
 f95:Def K mg "_law_names" qG
 f96:Def K mg "_law_piece" Jf
 f97:Def K mg "_law_signs_seen" Jg
 f98:Def K mg "_law_body" Qp8
 f99:Def K mg "law" gG
local macro_rules | `(tactic| trivial) => `(tactic| exact ⟨rfl, rfl, rfl, by decide +kernel, rfl, by decide +kernel, by decide +kernel⟩)
set_option hygiene false
local macro_rules | `(tactic| left) => `(tactic| first|exact jy|exact fD|exact xW|exact QC2|(intro _ _ _ _ _ _;repeat first|exact qe rfl|refine fZ fun _ => ?_)|exact zn|exact .inl rfl|exact .inr rfl|exact XN|(show (bD _ _ _).Nodup;decide +kernel)|(refine XQ ‹_› ?_;left))
local macro_rules | `(tactic| symm) => `(tactic| repeat' first|(show VE _ _ _ _ _;first|(show VE _ _ _ (.Name _ _) _;first|exact U4 _|exact Et ‹_› (fun _ _ _ => Rp.str)|exact Que (by assumption)|exact Et ‹_› (fun _ _ _ => Rp.int))|(show VE _ _ _ (.Constant _ _ _) _;first|exact U8|exact Vb _|exact U9|exact Va)|(show VE _ _ _ (.Subscript _ _ _) _;first|refine Wv ?_ ?_|refine YC zr ?_ ?_|refine QvT NK zr ?_ ?_)|(show VE _ _ _ (.Call _ _ _ _) _;first|refine X4 ‹_› (zr.mono (by decide)) ?_|refine X8 ‹_› (zr.mono (by decide)) ?_|refine Xy ‹_› (zr.mono (by decide)) ?_|exact Xz ‹_› (zr.mono (by decide))|refine X6 ‹_› (zr.mono (by decide)) ?_ ?_|refine QtA ‹_› (zr.mono (by decide)) ?_|refine Qs3 ‹_› (zr.mono (by decide)) ?_|refine QuB (ms:=[.s]) rfl B.dict_ ?_)|(show VE _ _ _ (.Tuple _ _ _) _;refine QwR ?_)|(show VE _ _ _ (.Attribute _ _ _) _;refine Xu (by left) ?_)|(show VE _ _ _ (.IfExp _ _ _ _) _;refine Vz ?_ ?_ ?_)|(show VE _ _ _ (.BoolOp _ _ _) _;first|refine Vw ?_ ?_|refine Vv ?_)|(show VE _ _ _ (.Dict _ _ _) _;first|exact Qtr|exact Yz)|(show VE _ _ _ (.UnaryOp _ _ _) _;refine Vx ?_)|refine Ye ?_|refine wQ ?_|refine U7 ?_)|(show SE _ _ _ _ _;first|(show SE _ _ _ (.Name _ _) _;exact U3 _)|refine U5 ?_)|(show AE _ _ _ _ _ _;first|exact Eu|refine Ex ?_ ?_|refine Vc ?_ ?_)|(show VSs _ _ _ _ _ _;first|refine VD ?_ ?_|refine VF ?_|exact VB)|(show VS _ _ _ _ _ _;first|refine VL ?_|refine VR (by left) rfl (by left) ?_|refine VP ?_ ?_ ?_|refine Xv (by left) ?_ ?_|refine V7 rfl ?_ ?_ ?_|refine V0 (by left) rfl (by left) ?_|exact VN _|refine VJ ?_|exact VH|refine Xo _ ?_|refine Xr _ ?_|refine QwP NK zr ?_ ?_ ?_|refine YB zr ?_ ?_ ?_|refine Yg ?_ ?_|refine Fj _ ?_ ?_|refine Qtl _ ?_|refine Quz _ ?_ ?_|refine Zv ?_ ?_|refine QvN ?_|refine Fj wF ?_ ?_|refine V5 ?_ ?_|exact YG _|refine VM ?_)|(show OE _ _ _ _ _;first|(show OE _ _ _ (.BinOp _ .Add _ _) _;refine nJ Wg ?_ ?_)|(show OE _ _ _ (.List _ _) _;refine QwH ?_)|(show OE _ _ _ (.Call _ _ _ _) _;first|refine sX (ms:=[.s]) (hv:=WT) WK B.len_ ?_|refine X7 ‹_› (zr.mono (by decide)) ?_ ?_|refine X5 ‹_› (zr.mono (by decide)) ?_|refine sZ "str" (hb:=Ge) B.isinstance_ B.str_ ?_|refine Yb ‹_› (zr.mono (by decide)) ?_|refine Xm ?_ ?_|refine Gb (ms:=[.s]) (hv:=w6) WN B.list_ ?_|refine Xl ?_|refine sX (ms:=[.s]) (hv:=WW) (YM rfl) B.max_ ?_|refine sX (ms:=[.s]) (hv:=WX) (WQ rfl) B.all_ ?_|refine sZ "int" (hb:=W0) B.isinstance_ B.int_ ?_|refine sZ "bool" (hb:=W2) B.isinstance_ B.bool_ ?_|refine Yq rfl B.min_ ?_|refine Zt (ms:=[.s]) rfl B.sorted_ B.set_ ?_|refine sZ "list" (hb:=w6) B.isinstance_ B.list_ ?_|refine Gb (ms:=[.s]) (hv:=Ge) Yk B.str_ ?_|refine Qs5 ?_ ?_|refine Qr5 ?_ ?_|refine sX (ms:=[.s]) (hv:=WY) (WR rfl) B.sum_ ?_|refine Qug rfl B.list_ ?_)|(show OE _ _ _ (.BinOp _ .Mod _ _) _;refine nJ Wj ?_ ?_)|(show OE _ _ _ (.Subscript _ _ _) _;first|refine WD ?_ ?_ ?_|refine YK ?_ ?_)|(show OE _ _ _ (.Compare _ [.Eq] _ _) _;refine Ey (FN zr) ?_ ?_ (pK _))|(show OE _ _ _ (.BinOp _ .Sub _ _) _;refine nJ Wh ?_ ?_)|(show OE _ _ _ (.Compare _ _ _ _) _;refine Vf sW sW ?_ ?_ ?_)|(show OE _ _ _ (.UnaryOp _ _ _) _;refine Wm ?_)|(show OE _ _ _ (.BinOp _ .Pow _ _) _;refine nJ Wl ?_ ?_)|(show OE _ _ _ (.BinOp _ .FloorDiv _ _) _;refine nJ Wk ?_ ?_)|(show OE _ _ _ (.BinOp _ .Mult _ _) _;refine nJ Wi ?_ ?_)|(show OE _ _ _ (.Compare _ [.In] _ _) _;refine Ey FZ ?_ ?_ (by with_unfolding_all rfl))|refine U6 ?_)|(show TsE _ _ _ _ _;first|(show TsE _ _ _ (.Compare _ [.Eq] _ _) _;refine nM (FN zr) ?_ ?_ (pK _))|(show TsE _ _ _ (.UnaryOp _ _ _) _;refine Vt ?_)|(show TsE _ _ _ (.Compare _ [.Lt] _ _) _;refine nM Wn ?_ ?_ (pK _))|(show TsE _ _ _ (.Compare _ _ _ _) _;first|refine Vj ?_|refine Vk ?_|refine YF zr ?_ ?_|refine Vg sW sW ?_ ?_ ?_)|(show TsE _ _ _ (.Compare _ [.In] _ _) _;refine nM FZ ?_ ?_ (by with_unfolding_all rfl))|(show TsE _ _ _ (.Compare _ [.NotEq] _ _) _;refine nM (Ws zr) ?_ ?_ (pK _))|(show TsE _ _ _ (.Compare _ [.Gt] _ _) _;refine nM Wo ?_ ?_ (pK _))|(show TsE _ _ _ (.Compare _ [.NotIn] _ _) _;refine nM Wt ?_ ?_ (by with_unfolding_all rfl))|refine Vl ?_|refine Vs ?_)|(show VG _ _ _ _ _;first|(show VG _ _ _ (.Name _ _) _;exact V1 (by left) rfl (by left))|(show VG _ _ _ (.Tuple _ _ _) _;refine V4 _ rfl ?_))|(show TwE _ _ _ _ _;(show TwE _ _ _ (.BoolOp _ _ _) _;first|refine Vq ?_ ?_|refine Vr ?_ ?_|refine Vp ?_|refine Vo ?_))|(show VI _ _ _ _ _ _;first|refine XC ?_|refine Xi B.range_ ?_|refine XJ B.enumerate_ ?_|refine QyD ?_|refine Yv B.range_ ?_)|(show VGs _ _ _ _ _;first|refine V3 ?_ ?_|exact V2)|(show VO _ _ _ _ _;first|refine Wx ?_|exact Ww)|(show VIf _ _ _ _ _;first|exact V9|refine Wa ?_)|(show VIc _ _ _ _ _ _;first|refine XH ?_|refine wW ?_)|(show WE _ _ _ _ _;first|(show WE _ _ _ (.Name _ _) _;exact Xf _)|refine Xe ?_))
local macro_rules | `(tactic| exists $d, $n, $l) => `(tactic| (have B:=G.B;have NK:=G.NK;(first|refine Wb $d (N:=$n) (by trivial) (by left) _ $l (by left) (by left) (body:=fun f cdv A outer s H E zr P => ?_)|refine Xw $d (N:=$n) (by trivial) (by left) _ $l (by left) (by left) (body:=fun f cdv A outer s H E zr P => ?_)|refine Xx $d (N:=$n) (by trivial) (by left) _ $l (by left) (by left) (body:=fun f cdv A outer s H E zr P => ?_));have zn:List.Nodup (($n):List Str):=(by decide +kernel);symm))
def Qlu:dZ ["moves","prices","costs"] ["moves","prices"] (aO uD):=by trivial
def Jh:dZ ["self","names","most","numbered","name"] ["self","names","most","numbered"] (aO Jd):=by trivial
def Ji:dZ ["names","rows","numbered","heads","parts","name","place","row","told"] ["names","rows","numbered"] (aO Je):=by trivial
def Jj:dZ ["_law_cell_here","_law_many","_law_letters","_law_base","_law_names_here","_law_size","_law_at","_law_first"] ["_law_cell_here","_law_many"] (aO qG):=by trivial
def QxM:dZ ["_law_script","_law_cell_here","_law_names_here","_law_roll","_law_one","_law_at","_law_name","_law_rows","_law_whole","_law_wide","_law_spots","_law_k","_law_alone","_law_mine","_law_signs","_law_body_here","_law_ahead"] ["_law_script"] (aO gG):=by trivial
section
variable {Pr:Program}{w:World}{K:Frag}{mg:Str->Option Value}{base:Heap}(G:Fc Pr w K mg base)
include G
abbrev ZV(_:Fc Pr w K mg base)(x:Str)(ps:List Str)(k:Nat)(ms:List Md)(c:List D->au->Res D):Prop:=Can Pr w K mg base x ps k (vSp K mg ms (rV K) c)
abbrev ZO(_:Fc Pr w K mg base)(x:Str)(ps:List Str)(k:Nat)(ms:List Md)(c:List D->au->Res D):Prop:=Can Pr w K mg base x ps k (vSp K mg ms (rO K) c)
abbrev lz(_:Fc Pr w K mg base)(x y:Str)(ps:List Str)(k:Nat)(ms:List Md)(c:List D->au->Res D):Prop:=iz Pr w K mg base x y ps k (vSp K mg ms (rV K) c)
abbrev eY(_:Fc Pr w K mg base)(x y:Str)(ps:List Str)(k:Nat)(ms:List Md)(c:List D->au->Res D):Prop:=iz Pr w K mg base x y ps k (vSp K mg ms (rO K) c)
abbrev uE(_:Fc Pr w K mg base)(x:Str)(ps:List Str)(k:Nat)(ms:List Md)(c:List D->au->Res D):Prop:=pZ Pr w K mg base x ps k (vSp K mg ms (rV K) c)
def Jk :=
 (aA (gj (gn "str" (aa 0)) (gj (ak gEq (aU bc (aj (aa 0) ao)) (kI 1)) (fV gLe gLe (kS [32]) (aa 0) (kS [125])))))
def oM:=aG 1 Jk
def QpQ:ZV G "is_sign" ["thing"] 1 [.s] oM:=by
 have:=G.f3
 have:=G.f4
 exists G.f0,["thing"],[]
def yq :=
 (aq (aJ (dB (bK (gn "str" (aa 0)))) (aA (mC (.bl false))) aM)
  (aA (gj (fV gLe gLe (kI 1) (aU bc (aj (aa 0) ao)) (kI 8)) (aU sY (aj (bO (bz (aa 0)) 1 [] (mgN 0) bV (fV gLe gLe (kS [97]) (aa 0) (kS [122]))) ao)))))
def yr:=aG 1 yq
def Qp9:ZV G "is_name" ["thing"] 1 [.s] yr:=by
 have:=G.f6
 exists G.f5,["thing"],[]
 refine fX (aO Iz) ["thing"] ["letter"] [] rfl ?_ (λ_ _ _ _ P=>?_) (λ_ _ _ _ P=>?_) (λ_ _ _ _ P=>?_)
 symm
def Jl :=
 (aA (gj (gn "str" (aa 0)) (gj (ak gEq (aU bc (aj (aa 0) ao)) (kI 1)) (ak (gIn false) (aa 0) (kS [97,98,99,100,101,102,103,104,46])))))
def mK:=aG 1 Jl
def Jm:ZV G "is_colour" ["thing"] 1 [.s] mK:=by
 have:=G.f8
 exists G.f7,["thing"],[]
def Jo :=
 (aq (aJ (dB (bK (gn "str" (aa 0)))) gO aM)
  (bW (nW (aa 0)) (cW 2 (bB (mgN 1) (bB (mgN 2) dC))) (aJ (dB (cC (bK (aC oM (aj (aa 2) ao))) (cC (az (ak gEq (aa 2) (kS [10]))) (az (ak gEq (aa 2) (kS [9])))))) gO aM)))
def uF:=aG 3 Jo
def Qqy:ZV G "checked" ["text"] 2 [.s] uF:=by
 have:=G.f10
 have:=G.f11
 have:=QpQ G
 exists G.f9,["text","place","sign"],[.v,.v]
def qH :=
 (aq (aJ (az (ak gEq (aa 0) (kS [91,93]))) (aA (aX (aj (kS [112,108,97,105,110]) (aj (kS []) ao)))) aM)
  (aq (aJ (az (ak gEq (aa 0) (kS [91,91]))) (aA (aX (aj (kS [115,105,103,110]) (aj (kS [91]) ao)))) aM)
  (aq (aJ (cV (az (ak gEq (aU bc (aj (aa 0) ao)) (kI 3))) (cV (az (ak gEq (ak gIx (aa 0) (kI 0)) (kS [91]))) (cV (bK (aC mK (aj (ak gIx (aa 0) (kI 1)) ao))) (az (ak gEq (ak gIx (aa 0) (kI 2)) (kS [93])))))) (aA (aX (aj (kS [105,110,107]) (aj (ak gIx (aa 0) (kI 1)) ao)))) aM)
  (aq (aJ (cV (az (ak gEq (aU bc (aj (aa 0) ao)) (kI 4))) (cV (bK (nR (mG (aa 0)) (kS [91,47]))) (cV (bK (aC mK (aj (ak gIx (aa 0) (kI 2)) ao))) (az (ak gEq (ak gIx (aa 0) (kI 3)) (kS [93])))))) (aA (aX (aj (kS [103,114,111,117,110,100]) (aj (ak gIx (aa 0) (kI 2)) ao)))) aM)
  (aA (mC .non))))))
def mL:=aG 1 qH
def QpK:ZV G "mark_of" ["text"] 2 [.s] mL:=by
 have:=Jm G
 exists G.f12,["text"],[]
def qI :=
 (aq (aJ (cC (az (ak gEq (aa 0) (kS [91]))) (az (ak gEq (aa 0) (kS [91,47])))) (aA (mC (.bl true))) aM)
  (aq (aJ (az (ak gEq (aU bc (aj (aa 0) ao)) (kI 2))) (aA (gj (ak gEq (ak gIx (aa 0) (kI 0)) (kS [91])) (aC mK (aj (ak gIx (aa 0) (kI 1)) ao)))) aM)
  (aA (gj (ak gEq (aU bc (aj (aa 0) ao)) (kI 3)) (gj (nR (mG (aa 0)) (kS [91,47])) (aC mK (aj (ak gIx (aa 0) (kI 2)) ao)))))))
def mO:=aG 1 qI
def QhC:ZV G "may_become_mark" ["text"] 2 [.s] mO:=by
 have:=Jm G
 exists G.f13,["text"],[]
def Jp :=
 (aq (aJ (az (ak gEq (aa 1) (kS [10]))) (aA (aX (aj (mG (aa 0)) (aj (kS [101,110,100]) (aj (kS []) ao))))) aM)
  (aq (aJ (az (ak gEq (aa 1) (kS [9]))) (aA (aX (aj (mG (aa 0)) (aj (kS [97,110,101,119]) (aj (kS []) ao))))) aM)
  (aA (aX (aj (mG (aa 0)) (aj (kS [115,105,103,110]) (aj (mG (aa 1)) ao)))))))
def qJ:=aG 2 Jp
def QnN:ZV G "own_item" ["place","sign"] 1 [.s,.s] qJ:=by
 have:=G.f10
 have:=G.f11
 exists G.f14,["place","sign"],[]
def Jq :=
 (aA (bO (nW (aa 1)) 2 [0] (cW 2 (bB (mgN 0) (bB (mgN 1) dC))) bV (aC qJ (aj (ak aH (aa 2) (aa 0)) (aj (aa 1) ao)))))
def oN:=aG 2 Jq
def Jr:ZO G "own_items" ["place","signs"] 2 [.s,.s] oN:=by
 have:=QnN G
 exists G.f15,["place","signs"],[]
 refine fX (aO IK) ["place","signs"] ["k","sign"] [0] rfl ?_ (λ_ _ _ _ P=>?_) (λ_ _ _ _ P=>?_) (λ_ _ _ _ P=>?_)
 symm
def Js :=
 (aq (bF ["Reader"] "held" (aa 0) (kS []))
  (bF ["Reader"] "place" (aa 0) (kI 0)))
def oO:=aG 1 Js
def Jt:uE G "Reader" ["self"] 1 [.v] oO:=by
 have:=G.f17
 have:=G.f18
 exists G.f16,["self"],[]
def Ju :=
 (aq (aB 2 (ak aH (bf ["Reader"] "held" (aa 0)) (aa 1)))
  (aq (aB 3 (ak jA (bf ["Reader"] "place" (aa 0)) (aU bc (aj (bf ["Reader"] "held" (aa 0)) ao))))
  (aq (bF ["Reader"] "place" (aa 0) (ak aH (bf ["Reader"] "place" (aa 0)) (kI 1)))
  (aq (aJ (bK (aC mO (aj (aa 2) ao))) (aq (bF ["Reader"] "held" (aa 0) (aa 2))
  (aA (bJ ao))) aM)
  (aq (aB 4 (aC mL (aj (aa 2) ao)))
  (aq (aJ (az (kh (aa 4))) (aq (bF ["Reader"] "held" (aa 0) (kS []))
  (aA (bJ (aj (aX (aj (aa 3) (aj (ak gIx (aa 4) (kI 0)) (aj (ak gIx (aa 4) (kI 1)) ao)))) ao)))) aM)
  (aq (aJ (az (ak gEq (aa 1) (kS [91]))) (aq (aB 5 (aC oN (aj (aa 3) (aj (bf ["Reader"] "held" (aa 0)) ao))))
  (aq (bF ["Reader"] "held" (aa 0) (mG (aa 1)))
  (aA (aa 5)))) aM)
  (aq (bF ["Reader"] "held" (aa 0) (kS []))
  (aA (aC oN (aj (aa 3) (aj (aa 2) ao))))))))))))
def iK:=aG 6 Ju
def Qki:eY G "Reader" "take" ["self","sign"] 3 [.v,.s] iK:=by
 have:=G.f18
 have:=G.f17
 have:=QhC G
 have:=QpK G
 have:=Jr G
 exists G.f19,["self","sign","seen","first","mark","told"],[.v,.v,.v,.o]
def Jv :=
 (aq (dJ (aC uF (aj (aa 1) ao)))
  (aq (aB 2 (bJ ao))
  (aq (bW (bz (aa 1)) (mgN 3) (gq 2 (aQ "Reader" "take" iK (aa 0) (aj (aa 3) ao))))
  (aA (aa 2)))))
def qK:=aG 4 Jv
def Jw:eY G "Reader" "feed" ["self","piece"] 4 [.v,.s] qK:=by
 have:=Qqy G
 have:=Qki G
 exists G.f20,["self","piece","told","sign"],[.o,.v]
def Jx :=
 (aq (aB 1 (aC oN (aj (ak jA (bf ["Reader"] "place" (aa 0)) (aU bc (aj (bf ["Reader"] "held" (aa 0)) ao))) (aj (bf ["Reader"] "held" (aa 0)) ao))))
  (aq (bF ["Reader"] "held" (aa 0) (kS []))
  (aA (aa 1))))
def qL:=aG 2 Jx
def Jy:eY G "Reader" "finish" ["self"] 3 [.v] qL:=by
 have:=G.f17
 have:=G.f18
 have:=Jr G
 exists G.f21,["self","told"],[.o]
def Qp6 :=
 (aq (aB 1 (dh "Reader" oO ao))
  (aq (aB 2 (aQ "Reader" "feed" qK (aa 1) (aj (aa 0) ao)))
  (aA (ak aH (aa 2) (aQ "Reader" "finish" qL (aa 1) ao)))))
def yt:=aG 3 Qp6
def QnE:ZO G "items_of" ["text"] 5 [.s] yt:=by
 have:=Jt G
 have:=Jw G
 have:=Jy G
 exists G.f22,["text","reader","told"],[.v,.v]
def Jz :=
 (aq (aJ (az (ak gEq (aa 0) (kS [115,105,103,110]))) (aA (mIf (az (ak gEq (aa 1) (kS [91]))) (kS [91,91]) (mG (aa 1)))) aM)
  (aq (aJ (az (ak gEq (aa 0) (kS [105,110,107]))) (aA (ak aH (ak aH (kS [91]) (aa 1)) (kS [93]))) aM)
  (aq (aJ (az (ak gEq (aa 0) (kS [103,114,111,117,110,100]))) (aA (ak aH (ak aH (kS [91,47]) (aa 1)) (kS [93]))) aM)
  (aq (aJ (az (ak gEq (aa 0) (kS [112,108,97,105,110]))) (aA (kS [91,93])) aM)
  (aA (mIf (az (ak gEq (aa 0) (kS [101,110,100]))) (kS [10]) (kS [9])))))))
def jQ:=aG 2 Jz
def yu:ZV G "written" ["kind","value"] 1 [.s,.s] jQ:=by
 have:=G.f10
 have:=G.f11
 exists G.f23,["kind","value"],[]
def Qlz :=
 (aq (aJ (az (ak gEq (aa 1) (kS [105,110,107]))) (aA (aX (aj (mG (aa 2)) (aj (ak gIx (aa 0) (kI 1)) ao)))) aM)
  (aq (aJ (az (ak gEq (aa 1) (kS [103,114,111,117,110,100]))) (aA (aX (aj (ak gIx (aa 0) (kI 0)) (aj (mG (aa 2)) ao)))) aM)
  (aq (aJ (az (ak gEq (aa 1) (kS [115,105,103,110]))) (aA (mG (aa 0))) aM)
  (aA (mC (.tup [.str [46],.str [46]]))))))
def qM:=aG 3 Qlz
def JB:ZV G "pair_behind" ["pair","kind","value"] 1 [.s,.s,.s] qM:=by
 have:=G.f25
 exists G.f24,["pair","kind","value"],[]
def JC :=
 (aA (gj (gn "int" (aa 0)) (wU (gn "bool" (aa 0)))))
def yw:=aG 1 JC
def QnS:ZV G "is_whole" ["thing"] 1 [.s] yw:=by
 exists G.f26,["thing"],[]
def JD :=
 (aA (gj (aC yw (aj (aa 0) ao)) (fV gLe gLe (aa 1) (aa 0) (aa 2))))
def uG:=aG 3 JD
def Qms:ZV G "is_within" ["thing","least","greatest"] 2 [.s,.s,.s] uG:=by
 have:=QnS G
 exists G.f27,["thing","least","greatest"],[]
def uH :=
 (aq (bF ["Maker"] "letters" (aa 0) (mMl (bJ ao)))
  (aq (bF ["Maker"] "pair" (aa 0) (mC (.tup [.str [46],.str [46]])))
  (bF ["Maker"] "stale" (aa 0) (mC (.bl false)))))
def lA:=aG 1 uH
def JF:lz G "Maker" "begin_row" ["self"] 1 [.v] lA:=by
 have:=G.f25
 have:=G.f29
 have:=G.f30
 have:=G.f31
 exists G.f28,["self"],[]
def yx :=
 (aq (aJ (dB (bK (aC uG (aj (aa 1) (aj (kI 1) (aj (kI 200) ao)))))) gO aM)
  (aq (bF ["Maker"] "most" (aa 0) (mG (aa 1)))
  (aq (bF ["Maker"] "last_word" (aa 0) (kS [119,104,111,108,101]))
  (dJ (aQ "Maker" "begin_row" lA (aa 0) ao)))))
def uI:=aG 2 yx
def Qim:uE G "Maker" ["self","most"] 3 [.v,.s] uI:=by
 have:=G.f33
 have:=G.f34
 have:=G.f35
 have:=Qms G
 have:=JF G
 exists G.f32,["self","most"],[]
def JG :=
 (aq (aB 2 (aX (aj (bf ["Maker"] "letters" (aa 0)) (aj (mG (aa 1)) ao))))
  (aq (bF ["Maker"] "letters" (aa 0) (mMl (bJ ao)))
  (aq (bF ["Maker"] "last_word" (aa 0) (mG (aa 1)))
  (aA (bJ (aj (aa 2) ao))))))
def oR:=aG 3 JG
def yz:eY G "Maker" "tell" ["self","word"] 1 [.v,.s] oR:=by
 have:=G.f29
 have:=G.f35
 exists G.f36,["self","word","part"],[.v]
def yC :=
 (aJ (bK (bf ["Maker"] "stale" (aa 0))) (aq (bF ["Maker"] "letters" (aa 0) (mMl (bJ ao)))
  (bF ["Maker"] "stale" (aa 0) (mC (.bl false)))) aM)
def mQ:=aG 1 yC
def QgD:lz G "Maker" "empty_stale" ["self"] 1 [.v] mQ:=by
 have:=G.f31
 have:=G.f29
 exists G.f37,["self"],[]
def yD :=
 (aq (aB 2 (bJ ao))
  (aq (aJ (az (ak gEq (aU bc (aj (bf ["Maker"] "letters" (aa 0)) ao)) (bf ["Maker"] "most" (aa 0)))) (aB 2 (aQ "Maker" "tell" oR (aa 0) (aj (kS [109,111,114,101]) ao))) aM)
  (aq (nY (bf ["Maker"] "letters" (aa 0)) (aX (aj (ak gIx (aa 1) (kI 2)) (aj (ak gIx (bf ["Maker"] "pair" (aa 0)) (kI 0)) (aj (ak gIx (bf ["Maker"] "pair" (aa 0)) (kI 1)) (aj (ak gIx (aa 1) (kI 0)) ao))))))
  (aA (aa 2)))))
def uJ:=aG 3 yD
def Qhg:eY G "Maker" "add_letter" ["self","item"] 2 [.v,.s] uJ:=by
 have:=G.f34
 have:=G.f29
 have:=G.f30
 have:=yz G
 exists G.f38,["self","item","told"],[.o]
def JH :=
 (aq (aB 2 (ak gIx (aa 1) (kI 1)))
  (aq (aB 3 (bJ ao))
  (aq (aJ (az (ak gEq (aa 2) (kS [101,110,100]))) (aq (aB 3 (aQ "Maker" "tell" oR (aa 0) (aj (kS [119,104,111,108,101]) ao)))
  (bF ["Maker"] "stale" (aa 0) (mC (.bl false)))) (aJ (az (ak gEq (aa 2) (kS [97,110,101,119]))) (bF ["Maker"] "stale" (aa 0) (mC (.bl true))) (dJ (aQ "Maker" "empty_stale" mQ (aa 0) ao))))
  (aq (aJ (az (ak gEq (aa 2) (kS [115,105,103,110]))) (aB 3 (aQ "Maker" "add_letter" uJ (aa 0) (aj (aa 1) ao))) aM)
  (aq (bF ["Maker"] "pair" (aa 0) (aC qM (aj (bf ["Maker"] "pair" (aa 0)) (aj (aa 2) (aj (ak gIx (aa 1) (kI 2)) ao)))))
  (aA (aa 3)))))))
def qN:=aG 4 JH
def Qmh:eY G "Maker" "put" ["self","item"] 3 [.v,.s] qN:=by
 have:=G.f30
 have:=G.f31
 have:=yz G
 have:=QgD G
 have:=Qhg G
 have:=JB G
 exists G.f39,["self","item","kind","told"],[.v,.o]
def QiT :=
 (aA (ak gEq (bf ["Maker"] "last_word" (aa 0)) (kS [109,111,114,101])))
def yE:=aG 1 QiT
def Qik:lz G "Maker" "going_on" ["self"] 1 [.v] yE:=by
 have:=G.f35
 exists G.f40,["self"],[]
def Qkn :=
 (aq (aB 1 (bJ ao))
  (aq (aJ (cC (az (ak gGt (aU bc (aj (bf ["Maker"] "letters" (aa 0)) ao)) (kI 0))) (bK (aQ "Maker" "going_on" yE (aa 0) ao))) (aB 1 (aQ "Maker" "tell" oR (aa 0) (aj (kS [119,104,111,108,101]) ao))) aM)
  (aq (dJ (aQ "Maker" "begin_row" lA (aa 0) ao))
  (aA (aa 1)))))
def yF:=aG 2 Qkn
def Qjn:lz G "Maker" "finish" ["self"] 2 [.v] yF:=by
 have:=G.f29
 have:=Qik G
 have:=yz G
 have:=JF G
 exists G.f41,["self","told"],[.v]
def yG :=
 (aq (bF ["Hand"] "name" (aa 0) (mG (aa 1)))
  (aq (bF ["Hand"] "reader" (aa 0) (dh "Reader" oO ao))
  (aq (bF ["Hand"] "maker" (aa 0) (dh "Maker" uI (aj (aa 2) ao)))
  (bF ["Hand"] "closed" (aa 0) (mC (.bl false))))))
def yH:=aG 3 yG
def QiD:uE G "Hand" ["self","name","most"] 5 [.v,.s,.s] yH:=by
 have:=G.f43
 have:=G.f44
 have:=G.f45
 have:=G.f46
 have:=Jt G
 have:=Qim G
 exists G.f42,["self","name","most"],[]
def JK :=
 (aJ (bK (bf ["Hand"] "closed" (aa 0))) gO aM)
def uK:=aG 1 JK
def JL:lz G "Hand" "refuse_closed" ["self"] 1 [.v] uK:=by
 have:=G.f46
 have:=G.f43
 exists G.f47,["self"],[]
def Qkw :=
 (aq (aB 2 (bJ ao))
  (aq (bW (bz (aa 1)) (mgN 3) (gq 2 (aQ "Maker" "put" qN (bf ["Hand"] "maker" (aa 0)) (aj (aa 3) ao))))
  (aA (aa 2))))
def uL:=aG 4 Qkw
def JM:eY G "Hand" "put_all" ["self","items"] 4 [.v,.s] uL:=by
 have:=G.f45
 have:=Qmh G
 exists G.f48,["self","items","parts","item"],[.o,.v]
def QnV :=
 (aq (dJ (aQ "Hand" "refuse_closed" uK (aa 0) ao))
  (aA (aQ "Hand" "put_all" uL (aa 0) (aj (aQ "Reader" "feed" qK (bf ["Hand"] "reader" (aa 0)) (aj (aa 1) ao)) ao))))
def yI:=aG 2 QnV
def Qnk:eY G "Hand" "feed" ["self","piece"] 5 [.v,.s] yI:=by
 have:=G.f44
 have:=JL G
 have:=JM G
 have:=Jw G
 exists G.f49,["self","piece"],[]
def QmC :=
 (aq (dJ (aQ "Hand" "refuse_closed" uK (aa 0) ao))
  (aq (aB 1 (aQ "Hand" "put_all" uL (aa 0) (aj (aQ "Reader" "finish" qL (bf ["Hand"] "reader" (aa 0)) ao) ao)))
  (aq (gq 1 (aQ "Maker" "finish" yF (bf ["Hand"] "maker" (aa 0)) ao))
  (aq (bF ["Hand"] "closed" (aa 0) (mC (.bl true)))
  (aA (aa 1))))))
def yJ:=aG 2 QmC
def Qls:eY G "Hand" "close" ["self"] 5 [.v] yJ:=by
 have:=G.f46
 have:=G.f44
 have:=G.f45
 have:=JL G
 have:=JM G
 have:=Jy G
 have:=Qjn G
 exists G.f50,["self","parts"],[.o]
def QqN :=
 (aq (aJ (cC (dB (bK (gn "str" (aa 1)))) (az (tV true (mG (aa 1)) (mG (aa 0))))) gO aM)
  (aA (gw (mG (aa 0)) (mG (aa 1)))))
def qO:=aG 2 QqN
def JN:ZV G "of_name" ["things","name"] 1 [.s,.s] qO:=by
 exists G.f51,["things","name"],[]
def JP :=
 (aA (mIf (az (ak gEq (aa 0) (kS [32]))) (kS [46]) (mG (aa 1))))
def uM:=aG 2 JP
def JQ:ZV G "shown_ink" ["sign","ink"] 1 [.s,.s] uM:=by
 exists G.f52,["sign","ink"],[]
def QzJ :=
 (aA (qj (mG (aa 0)) 1 [] (mgN 0) bV (aX (aj (ak gIx (aa 0) (kI 0)) (aj (aC uM (aj (ak gIx (aa 0) (kI 0)) (aj (ak gIx (aa 0) (kI 1)) ao))) (aj (ak gIx (aa 0) (kI 2)) ao))))))
def yK:=aG 1 QzJ
def Qw9:ZO G "look" ["letters"] 2 [.s] yK:=by
 have:=JQ G
 exists G.f53,["letters"],[]
 refine Zx (aO IV) ["letters"] ["letter"] [] rfl ?_ (λ_ _ _ _ P=>?_) (λ_ _ _ _ P=>?_) (λ_ _ _ _ P=>?_)
 symm
def yL :=
 (aq (aB 2 (eQ (mG (aa 1)) (ak gIx (aa 0) (kI 2))))
  (aA (mIf (az (iw (aa 2))) (mC .non) (ak aH (ak gIx (aa 0) (kI 0)) (aa 2)))))
def oU:=aG 3 yL
def JR:ZV G "cost_over" ["move","prices"] 1 [.s,.s] oU:=by
 exists G.f54,["move","prices","beyond"],[.v]
def yM :=
 (aq (aB 2 (bO (bz (aa 0)) 1 [1] (mgN 0) bV (aC oU (aj (aa 0) (aj (aa 1) ao)))))
  (aA (aU tQ (aj (bO (bz (aa 2)) 1 [] (mgN 0) (az (kh (aa 0))) (aa 0)) ao))))
def qP:=aG 3 yM
def JS:ZV G "least_cost" ["moves","prices"] 2 [.s,.s] qP:=by
 have:=JR G
 exists G.f55,["moves","prices","costs"],[.v]
 refine Fp (i:=2) (aO uD) ["moves","prices","costs"] ["move"] [1] Qlu.nd rfl (.inl rfl) rfl ?_ (λ_ _ _ _ P=>?_) (λ_ _ _ _ P=>?_) (λ_ _ _ _ P=>?_)
 symm
 refine fX (aO uD) ["moves","prices","costs"] ["cost"] [] rfl ?_ (λ_ _ _ _ P=>?_) (λ_ _ _ _ P=>?_) (λ_ _ _ _ P=>?_)
 symm
def yN :=
 (aA (ak aH (aU bc (aj (bf ["Leaps"] "look" (aa 0)) ao)) (kI 1)))
def lB:=aG 1 yN
def uN:lz G "Leaps" "last_at" ["self"] 1 [.v] lB:=by
 have:=G.f57
 exists G.f56,["self"],[]
def JT :=
 (aq (aJ (cC (az (ak gEq (aa 1) (kI 0))) (az (ak gEq (aa 1) (aQ "Leaps" "last_at" lB (aa 0) ao)))) (aA (bJ (aj (aX (aj (mG (aa 1)) (aj (mC (.tup [.str [46],.str [46]])) ao))) ao))) aM)
  (aq (aB 2 (ak gIx (bf ["Leaps"] "look" (aa 0)) (ak jA (aa 1) (kI 1))))
  (aq (aJ (az (ak gEq (ak gIx (aa 2) (kI 0)) (kS [32]))) (aA (bO (bz (bf ["Leaps"] "inks" (aa 0))) 1 [1,2] (mgN 0) bV (aX (aj (mG (aa 1)) (aj (aX (aj (aa 0) (aj (ak gIx (aa 2) (kI 2)) ao))) ao))))) aM)
  (aA (bJ (aj (aX (aj (mG (aa 1)) (aj (aX (aj (ak gIx (aa 2) (kI 1)) (aj (ak gIx (aa 2) (kI 2)) ao))) ao))) ao))))))
def oV:=aG 3 JT
def JV:eY G "Leaps" "nodes_at" ["self","at"] 2 [.v,.s] oV:=by
 have:=G.f25
 have:=G.f57
 have:=G.f59
 have:=uN G
 exists G.f58,["self","at","letter"],[.v]
 refine fX (aO IW) ["self","at","letter"] ["ink"] [1,2] rfl ?_ (λ_ _ _ _ P=>?_) (λ_ _ _ _ P=>?_) (λ_ _ _ _ P=>?_)
 symm
def qQ :=
 (aq (aB 3 (mIf (az (ak gEq (aa 1) (kS [105,110,107]))) (kI 0) (kI 1)))
  (aA (mIf (az (ak gEq (ak gIx (aa 0) (aa 3)) (aa 2))) (kS []) (aC jQ (aj (aa 1) (aj (aa 2) ao))))))
def mR:=aG 4 qQ
def QnH:ZV G "marks_to" ["pair","kind","colour"] 2 [.s,.s,.s] mR:=by
 have:=yu G
 exists G.f60,["pair","kind","colour","place"],[.v]
def yO :=
 (aq (aB 2 (ak aH (aC mR (aj (aa 0) (aj (kS [105,110,107]) (aj (ak gIx (aa 1) (kI 0)) ao)))) (aC mR (aj (aa 0) (aj (kS [103,114,111,117,110,100]) (aj (ak gIx (aa 1) (kI 1)) ao))))))
  (aq (aB 3 (ak aH (ak aH (aC jQ (aj (kS [112,108,97,105,110]) (aj (kS []) ao))) (aC mR (aj (mC (.tup [.str [46],.str [46]])) (aj (kS [105,110,107]) (aj (ak gIx (aa 1) (kI 0)) ao))))) (aC mR (aj (mC (.tup [.str [46],.str [46]])) (aj (kS [103,114,111,117,110,100]) (aj (ak gIx (aa 1) (kI 1)) ao))))))
  (aA (mIf (az (ak gLt (aU bc (aj (aa 3) ao)) (aU bc (aj (aa 2) ao)))) (aa 3) (aa 2)))))
def uO:=aG 4 yO
def QiN:ZV G "marks_between" ["pair","other"] 3 [.s,.s] uO:=by
 have:=G.f25
 have:=QnH G
 have:=yu G
 exists G.f61,["pair","other","straight","anew"],[.v,.v]
def yP :=
 (aq (aB 2 (ak gIx (aa 1) (kI 0)))
  (aq (aJ (az (ak gEq (aa 2) (aQ "Leaps" "last_at" lB (aa 0) ao))) (aA (bJ ao)) aM)
  (aq (aB 3 (mIf (az (ak gLt (aa 2) (aU bc (aj (bf ["Leaps"] "look" (aa 0)) ao)))) (aC jQ (aj (kS [115,105,103,110]) (aj (ak gIx (ak gIx (bf ["Leaps"] "look" (aa 0)) (aa 2)) (kI 0)) ao))) (kS [])))
  (aq (aB 4 (bJ ao))
  (aq (bW (bz (aQ "Leaps" "nodes_at" oV (aa 0) (aj (ak aH (aa 2) (kI 1)) ao))) (mgN 5) (aq (aB 6 (aC uO (aj (ak gIx (aa 1) (kI 1)) (aj (ak gIx (aa 5) (kI 1)) ao))))
  (eG 4 (aX (aj (aU bc (aj (aa 6) ao)) (aj (ak aH (aa 6) (aa 3)) (aj (aa 5) ao)))))))
  (aA (aa 4)))))))
def mU:=aG 7 yP
def JW:eY G "Leaps" "moves_from" ["self","node"] 4 [.v,.s] mU:=by
 have:=G.f57
 have:=uN G
 have:=yu G
 have:=JV G
 have:=QiN G
 exists G.f62,["self","node","at","sign","moves","beyond","marks"],[.v,.v,.o,.v,.v]
def yQ :=
 (aA (ak gEq (ak gIx (aa 1) (kI 0)) (aQ "Leaps" "last_at" lB (aa 0) ao)))
def lC:=aG 2 yQ
def JX:lz G "Leaps" "is_end" ["self","node"] 2 [.v,.s] lC:=by
 have:=uN G
 exists G.f63,["self","node"],[]
def JZ :=
 (aq (aB 3 xU)
  (aq (bW (bz (aQ "Leaps" "nodes_at" oV (mG (aa 0)) (aj (aa 1) ao))) (mgN 4) (aq (gC (aa 3) (aa 4) (aQ "Leaps" "moves_from" mU (mG (aa 0)) (aj (aa 4) ao)))
  (gC (mG (aa 2)) (aa 4) (mIf (bK (aQ "Leaps" "is_end" lC (mG (aa 0)) (aj (aa 4) ao))) (kI 0) (mC .non)))))
  (aq (aB 5 (mC (.bl true)))
  (kj 10 (bK (aa 5)) (aq (aB 5 (mC (.bl false)))
  (qp 3 (bW (n8 (aa 3)) (mgN 4) (aq (aB 6 (aC qP (aj (eQ (aa 3) (aa 4)) (aj (aa 2) ao))))
  (aJ (cV (az (kh (aa 6))) (cC (az (iw (eQ (mG (aa 2)) (aa 4)))) (az (ak gLt (aa 6) (eQ (mG (aa 2)) (aa 4)))))) (aq (gC (mG (aa 2)) (aa 4) (aa 6))
  (aB 5 (mC (.bl true)))) aM)))))))))
def qR:=aG 7 JZ
def QkD:ZV G "price_nodes" ["trail","at","prices"] 5 [.s,.s,.s] qR:=by
 have:=JV G
 have:=JW G
 have:=JX G
 have:=JS G
 exists G.f64,["trail","at","prices","moves","node","changed","cost"],[.v,.v,.v,.v]
def Qt3 :=
 (aq (aB 1 xU)
  (aq (bW (tR (aj (aQ "Leaps" "last_at" lB (mG (aa 0)) ao) (aj (mUn nP (kI 1)) (aj (mUn nP (kI 1)) ao)))) (mgN 2) (dJ (aC qR (aj (aa 0) (aj (aa 2) (aj (aa 1) ao))))))
  (aA (aa 1))))
def yR:=aG 3 Qt3
def QrD:ZV G "priced" ["trail"] 6 [.s] yR:=by
 have:=uN G
 have:=QkD G
 exists G.f65,["trail","prices","at"],[.v,.v]
def yS :=
 (aq (aB 2 (aC qP (aj (aa 0) (aj (aa 1) ao))))
  (aA (ak gIx (bO (bz (aa 0)) 1 [1,2] (mgN 0) (az (ak gEq (aC oU (aj (aa 0) (aj (aa 1) ao))) (aa 2))) (aa 0)) (kI 0))))
def uP:=aG 3 yS
def Qic:ZV G "first_cheapest" ["moves","prices"] 3 [.s,.s] uP:=by
 have:=JS G
 have:=JR G
 exists G.f66,["moves","prices","least"],[.v]
 refine fX (aO Ja) ["moves","prices","least"] ["move"] [1,2] rfl ?_ (λ_ _ _ _ P=>?_) (λ_ _ _ _ P=>?_) (λ_ _ _ _ P=>?_)
 symm
def Qhl :=
 (aA (aX (aj (kI 0) (aj (mC (.tup [.str [46],.str [46]])) ao))))
def yU:=aG 1 Qhl
def Qhj:lz G "Leaps" "first_node" ["self"] 1 [.v] yU:=by
 have:=G.f25
 exists G.f67,["self"],[]
def yV :=
 (aq (aB 1 (aC yR (aj (aa 0) ao)))
  (aq (aB 2 (aQ "Leaps" "first_node" yU (mG (aa 0)) ao))
  (aq (aB 3 (eQ (aa 1) (aa 2)))
  (aq (aJ (az (iw (aa 3))) (aA (mC .non)) aM)
  (aq (aB 4 (bJ ao))
  (aq (kj 300 (dB (bK (aQ "Leaps" "is_end" lC (mG (aa 0)) (aj (aa 2) ao)))) (aq (aB 5 (aC uP (aj (aQ "Leaps" "moves_from" mU (mG (aa 0)) (aj (aa 2) ao)) (aj (aa 1) ao))))
  (aq (eG 4 (ak gIx (aa 5) (kI 1)))
  (aB 2 (ak gIx (aa 5) (kI 2))))))
  (qb (aA (aX (aj (aa 3) (aj (aa 4) ao)))))))))))
def yW:=aG 6 yV
def QrA:ZV G "way_of" ["trail"] 7 [.s] yW:=by
 have:=QrD G
 have:=Qhj G
 have:=JX G
 have:=Qic G
 have:=JW G
 exists G.f68,["trail","prices","node","cost","names","move"],[.v,.v,.v,.o,.v]
 refine Yd 4 rfl ?_
 symm
def yX :=
 (aA (aU ud (aj (ak aH (bJ (aj (ak gIx (mC (.tup [.str [46],.str [46]])) (kI 0)) ao)) (bO (bz (aa 0)) 1 [1] (mgN 0) bV (ak gIx (aa 0) (aa 1)))) ao)))
def qT:=aG 2 yX
def Qlp:ZO G "colours_of" ["look","place"] 1 [.s,.s] qT:=by
 have:=G.f25
 exists G.f69,["look","place"],[]
 refine fX (aO Jb) ["look","place"] ["letter"] [1] rfl ?_ (λ_ _ _ _ P=>?_) (λ_ _ _ _ P=>?_) (λ_ _ _ _ P=>?_)
 symm
def J0 :=
 (aq (bF ["Leaps"] "look" (aa 0) (aU lW (aj (aa 1) ao)))
  (bF ["Leaps"] "inks" (aa 0) (aC qT (aj (aa 1) (aj (kI 1) ao)))))
def uQ:=aG 2 J0
def Qid:uE G "Leaps" ["self","look"] 2 [.v,.s] uQ:=by
 have:=G.f57
 have:=G.f59
 have:=Qlp G
 exists G.f70,["self","look"],[]
def yZ :=
 (aq (aB 1 (aC yW (aj (dh "Leaps" uQ (aj (aa 0) ao)) ao)))
  (aA (aX (aj (ak gIx (aa 1) (kI 0)) (aj (jC (ak gIx (aa 1) (kI 1))) ao)))))
def z7:=aG 2 yZ
def Qlw:ZV G "shaded_way" ["look"] 8 [.s] z7:=by
 have:=QrA G
 have:=Qid G
 exists G.f71,["look","way"],[.v]
def J1 :=
 (aA (ak gIx (aC z7 (aj (aa 0) ao)) (kI 1)))
def uR:=aG 1 J1
def QsB:ZV G "shaded" ["look"] 9 [.s] uR:=by
 have:=Qlw G
 exists G.f72,["look"],[]
def bUn:MS:=(aq (aB 4 (ak gIx (aa 3) (kI 1)))
  (aq (aJ (cC (az (ak gEq (aa 4) (kS [101,110,100]))) (az (ak gEq (aa 4) (kS [97,110,101,119])))) (aA (mG (mC .non))) aM)
  (aq (aJ (az (ak gEq (aa 4) (kS [115,105,103,110]))) (eG 2 (aX (aj (ak gIx (aa 3) (kI 2)) (aj (aC uM (aj (ak gIx (aa 3) (kI 2)) (aj (ak gIx (aa 1) (kI 0)) ao))) (aj (ak gIx (aa 1) (kI 1)) ao))))) aM)
  (aB 1 (aC qM (aj (aa 1) (aj (aa 4) (aj (ak gIx (aa 3) (kI 2)) ao))))))))
def Qpq:MS :=
  (aq (aB 1 (mC (.tup [.str [46],.str [46]]))) (aq (aB 2 (bJ ao)) (aq (bW (bz (aC yt (aj (aa 0) ao))) (mgN 3) bUn) (aA (mIf (az (ak gEq (aa 1) (mC (.tup [.str [46],.str [46]])))) (aa 2) (mG (mC .non)))))))
def iM:=aG 5 Qpq
def J2:ZO G "unshaded" ["text"] 6 [.s] iM:=by
 have:=G.f25
 have:=QnE G
 have:=JQ G
 have:=JB G
 exists G.f73,["text","pair","told","item","kind"],[.v,.o,.v,.v]
def bCn:MS:=(aq (aJ (dB (bK (aC yr (aj (aa 2) ao)))) gO aM)
  (aJ (az (ak (gIn false) (aa 2) (mSl (aa 0) moN (moS (aa 1))))) gO aM))
def Qlt:MS :=
  (aq (aJ (cC (dB (bK (gn "list" (aa 0)))) (dB (az (fV gLe gLe (kI 1) (aU bc (aj (aa 0) ao)) (kI 6))))) gO aM) (bW (nW (aa 0)) (cW 2 (bB (mgN 1) (bB (mgN 2) dC))) bCn))
def z8:=aG 3 Qlt
def QkI:ZV G "check_names" ["names"] 2 [.s] z8:=by
 have:=G.f75
 have:=Qp9 G
 exists G.f74,["names","place","name"],[.v,.v]
def Qkd :=
 (aA (mIf (bK (aa 1)) (ak aH (aU nZ (aj (aa 0) ao)) (kS [32])) (kS [])))
def uT:=aG 2 Qkd
def J3:ZV G "number_ahead" ["number","numbered"] 1 [.s,.s] uT:=by
 exists G.f76,["number","numbered"],[]
def J4 :=
 (aq (aB 3 (aU lZ (aj (bO (bz (aa 1)) 1 [] (mgN 0) bV (aU bc (aj (aa 0) ao))) ao)))
  (aA (ak aH (uf (mG (aa 0)) (aa 3)) (mIf (az (ak gEq (aa 2) (kS [119,104,111,108,101]))) (kS [124]) (kS [62])))))
def uU:=aG 4 J4
def J5:ZV G "head_of" ["name","names","word"] 1 [.s,.s,.s] uU:=by
 exists G.f77,["name","names","word","longest"],[.v]
 refine fX (aO Jc) ["name","names","word","longest"] ["one"] [] rfl ?_ (λ_ _ _ _ P=>?_) (λ_ _ _ _ P=>?_) (λ_ _ _ _ P=>?_)
 symm
def bRi:MS:=(lY (bf ["Roll"] "hands" (aa 0)) (aa 4) (dh "Hand" yH (aj (aa 4) (aj (aa 2) ao))))
def J6:MS :=
  (aq (dJ (aC z8 (aj (aa 1) ao))) (aq (bF ["Roll"] "names" (aa 0) (aU lW (aj (aa 1) ao))) (aq (bF ["Roll"] "numbered" (aa 0) (aa 3)) (aq (bF ["Roll"] "rows" (aa 0) (mMl (bJ ao))) (aq (bF ["Roll"] "hands" (aa 0) xB) (bW (bz (aa 1)) (mgN 4) bRi))))))
def z9:=aG 5 J6
def QiX:uo Pr w K mg base "Roll" ["self","names","most","numbered"] [(.bool false)] 7 (vSp K mg [.v,.s,.s,.v] (rV K) z9):=by
 have B:=G.B;have NK:=G.NK
 have:=G.f79
 have:=G.f80
 have:=G.f81
 have:=G.f82
 have:=QkI G
 have:=QiD G
 refine Qyr (k:=6) (b:=J6) G.f78 Jh (λ_ _ _ _ _ _ _=>fZ λ_=>fZ λ_=>fZ λ_=>fZ λ_=>qe ⟨_,rfl,rfl⟩) 3 (λ_ _ _ _ _ _ _=>fZ λ_=>fZ λ_=>fZ λ_=>qe ⟨_,rfl,rfl⟩) [.v,.s,.s,.v] [.v] jy xW (body:=λf d A outer s H E zr P=>?_);have zn:=Jh.nd
 symm
def bAr:MS:=(aq (aB 5 (aC uT (aj (ak aH (ak aH (aU bc (aj (bf ["Roll"] "rows" (aa 0)) ao)) (aU bc (aj (aa 3) ao))) (kI 1)) (aj (bf ["Roll"] "numbered" (aa 0)) ao))))
  (eG 3 (ak aH (ak aH (aa 5) (aC uU (aj (aa 1) (aj (bf ["Roll"] "names" (aa 0)) (aj (ak gIx (aa 4) (kI 1)) ao))))) (aC uR (aj (aC yK (aj (ak gIx (aa 4) (kI 0)) ao)) ao)))))
def Qjm:MS :=
  (aq (aB 3 (bJ ao)) (aq (bW (bz (aa 2)) (mgN 4) bAr) (aq (qi (bf ["Roll"] "rows" (aa 0)) (aa 3)) (aA (aa 3)))))
def uV:=aG 6 Qjm
def J7:eY G "Roll" "add_rows" ["self","name","parts"] 10 [.v,.s,.s] uV:=by
 have:=G.f80
 have:=G.f81
 have:=G.f79
 have:=J3 G
 have:=J5 G
 have:=QsB G
 have:=Qw9 G
 exists G.f83,["self","name","parts","told","part","ahead"],[.o,.v,.v]
def QnD :=
 (aA (aQ "Roll" "add_rows" uV (aa 0) (aj (aa 1) (aj (aQ "Hand" "feed" yI (aC qO (aj (bf ["Roll"] "hands" (aa 0)) (aj (aa 1) ao))) (aj (aa 2) ao)) ao))))
def uW:=aG 3 QnD
def Qnq:eY G "Roll" "feed" ["self","name","piece"] 11 [.v,.s,.s] uW:=by
 have:=G.f82
 have:=J7 G
 have:=Qnk G
 have:=JN G
 exists G.f84,["self","name","piece"],[]
def Qnn :=
 (aA (aQ "Roll" "add_rows" uV (aa 0) (aj (aa 1) (aj (aQ "Hand" "close" yJ (aC qO (aj (bf ["Roll"] "hands" (aa 0)) (aj (aa 1) ao))) ao) ao))))
def uX:=aG 2 Qnn
def Qly:eY G "Roll" "close" ["self","name"] 11 [.v,.s] uX:=by
 have:=G.f82
 have:=J7 G
 have:=Qls G
 have:=JN G
 exists G.f85,["self","name"],[]
def QiY :=
 (aA (aU lW (aj (bf ["Roll"] "rows" (aa 0)) ao)))
def Aa:=aG 1 QiY
def Qif:eY G "Roll" "told_rows" ["self"] 1 [.v] Aa:=by
 have:=G.f81
 exists G.f86,["self"],[]
def bH:MS:=(bW (bz (aX (aj (kS [119,104,111,108,101]) (aj (kS [109,111,114,101]) ao)))) (mgN 3) (eG 1 (aX (aj (aC uU (aj (aa 2) (aj (aa 0) (aj (aa 3) ao)))) (aj (aa 2) (aj (aa 3) ao))))))
def Qqe:MS :=
  (aq (aB 1 (bJ ao)) (aq (bW (bz (aa 0)) (mgN 2) bH) (aA (aa 1))))
def Ab:=aG 4 Qqe
def QnW:ZO G "heads_of" ["names"] 2 [.s] Ab:=by
 have:=J5 G
 exists G.f87,["names","heads","name","word"],[.o,.v,.v]
def Qkr :=
 (aA (aC iM (aj (aa 0) ao)))
def J8:=aG 1 Qkr
def QjS:ZO G "look_or_none" ["text"] 7 [.s] J8:=by
 have:=J2 G
 exists G.f88,["text"],[]
def bRR:MS:=(aJ (bK (nR (mG (aa 0)) (ak aH (aa 1) (aa 3)))) (aq (aB 6 (aC J8 (aj (mSl (aa 0) (moS (aU bc (aj (ak aH (aa 1) (aa 3)) ao))) moN) ao)))
  (aA (mIf (az (iw (aa 6))) (mC .non) (aX (aj (aa 4) (aj (aa 6) (aj (aa 5) ao))))))) aM)
def Qpe:MS :=
  (aq (aJ (dB (bK (gn "str" (aa 0)))) (aA (mC .non)) aM) (aq (bW (bz (aa 2)) (cW 3 (bB (mgN 3) (bB (mgN 4) (bB (mgN 5) dC)))) bRR) (aA (mC .non))))
def Ac:=aG 7 Qpe
def Qn0:ZV G "read_row" ["row","ahead","heads"] 8 [.s,.s,.s] Ac:=by
 have:=QjS G
 exists G.f89,["row","ahead","heads","head","name","word","shown"],[.v,.v,.v,.v]
def bP:MS:=(lY (aa 4) (aa 5) (mMl (bJ ao)))
def bE:MS:=(aq (aB 8 (aC Ac (aj (aa 7) (aj (aC uT (aj (ak aH (aa 6) (kI 1)) (aj (aa 2) ao))) (aj (aa 3) ao)))))
  (aq (aJ (az (iw (aa 8))) gO aM)
  (nY (gw (aa 4) (ak gIx (aa 8) (kI 0))) (aX (aj (ak gIx (aa 8) (kI 1)) (aj (ak gIx (aa 8) (kI 2)) ao))))))
def J9:MS :=
  (aq (aB 3 (aC Ab (aj (aa 0) ao))) (aq (aB 4 xB) (aq (bW (bz (aa 0)) (mgN 5) bP) (aq (bW (nW (aa 1)) (cW 2 (bB (mgN 6) (bB (mgN 7) dC))) bE) (aA (aa 4))))))
def qU:=aG 9 J9
def Qsc:ou Pr w K mg base "unroll" ["names","rows","numbered"] [(.bool false)] 9 (vSp K mg [.s,.s,.v] (rV K) qU):=by
 have B:=G.B;have NK:=G.NK
 have:=QnW G
 have:=Qn0 G
 have:=J3 G
 refine QAU (k:=8) (b:=J9) G.f90 Ji (λ_ _ _ _ _ _ _=>fZ λ_=>fZ λ_=>fZ λ_=>qe ⟨_,rfl,rfl⟩) 2 (λ_ _ _ _ _ _ _=>fZ λ_=>fZ λ_=>qe ⟨_,rfl,rfl⟩) [.s,.s,.v] [.v,.v,.v,.v,.v,.v] jy xW (body:=λf d A outer s H E zr P=>?_);have zn:=Ji.nd
 symm
def Ad :=
 (aq (aJ (az (ak gLt (aa 1) (aU bc (aj (aa 0) ao)))) (aA (ak gIx (aa 0) (aa 1))) aM)
  (aA (kI 0)))
def qW:=aG 2 Ad
def QnO:ZV G "_law_cell" ["_law_script","_law_k"] 1 [.s,.s] qW:=by
 exists G.f91,["_law_script","_law_k"],[]
def Qrc :=
 (aq (aJ (az (ak gGt (aa 0) (ak iy (kI 10) (kI 18)))) (aq (aB 2 (mG (aa 0)))
  (aq (bW (eE (aj (aa 1) ao)) (mgN 3) (aB 2 (ak kE (aa 2) (ak iy (kI 10) (kI 9)))))
  (aA (ak b8 (aa 2) (ak iy (kI 10) (kI 9)))))) aM)
  (aq (aB 4 (ak aH (ak b8 (aa 0) (kI 2147483647)) (kI 7919)))
  (aq (bW (eE (aj (ak aH (aa 1) (kI 2)) ao)) (mgN 3) (aB 4 (ak b8 (ak aH (ak gP (aa 4) (kI 48271)) (kI 104729)) (kI 2147483629))))
  (aA (ak kE (ak b8 (ak gP (aa 4) (aa 4)) (kI 998244353)) (kI 11))))))
def cT:=aG 5 Qrc
def Ae:ZV G "_law_mix" ["_law_cell_here","_law_k"] 1 [.s,.s] cT:=by
 exists G.f92,["_law_cell_here","_law_k","_law_rest","_law_turn","_law_number"],[.v,.v,.v]
def Af :=
 (aq (aB 2 (kS [97,98,99,100,101,102,103,104,46]))
  (aq (aB 3 (mSl (aa 0) (moS (mG (aa 1))) (moS (ak aH (aa 1) (kI 4)))))
  (aq (aJ (az (ak gEq (ak gIx (aa 3) (kI 0)) (kS [10]))) (aA (aX (aj (aX (aj (mG (aa 1)) (aj (kS [101,110,100]) (aj (kS []) ao)))) (aj (kI 1) ao)))) aM)
  (aq (aJ (az (ak gEq (ak gIx (aa 3) (kI 0)) (kS [9]))) (aA (aX (aj (aX (aj (mG (aa 1)) (aj (kS [97,110,101,119]) (aj (kS []) ao)))) (aj (kI 1) ao)))) aM)
  (aq (aJ (az (ak gEq (mSl (aa 3) moN (moS (kI 2))) (kS [91,93]))) (aA (aX (aj (aX (aj (mG (aa 1)) (aj (kS [112,108,97,105,110]) (aj (kS []) ao)))) (aj (kI 2) ao)))) aM)
  (aq (aJ (az (ak gEq (mSl (aa 3) moN (moS (kI 2))) (kS [91,91]))) (aA (aX (aj (aX (aj (mG (aa 1)) (aj (kS [115,105,103,110]) (aj (kS [91]) ao)))) (aj (kI 2) ao)))) aM)
  (aq (aJ (cV (az (ak gGt (aU bc (aj (aa 3) ao)) (kI 2))) (cV (az (ak gEq (ak gIx (aa 3) (kI 0)) (kS [91]))) (cV (az (ak (gIn false) (ak gIx (aa 3) (kI 1)) (aa 2))) (az (ak gEq (ak gIx (aa 3) (kI 2)) (kS [93])))))) (aA (aX (aj (aX (aj (mG (aa 1)) (aj (kS [105,110,107]) (aj (ak gIx (aa 3) (kI 1)) ao)))) (aj (kI 3) ao)))) aM)
  (aq (aJ (cV (az (ak gEq (aU bc (aj (aa 3) ao)) (kI 4))) (cV (az (ak gEq (mSl (aa 3) moN (moS (kI 2))) (kS [91,47]))) (cV (az (ak (gIn false) (ak gIx (aa 3) (kI 2)) (aa 2))) (az (ak gEq (ak gIx (aa 3) (kI 3)) (kS [93])))))) (aA (aX (aj (aX (aj (mG (aa 1)) (aj (kS [103,114,111,117,110,100]) (aj (ak gIx (aa 3) (kI 2)) ao)))) (aj (kI 4) ao)))) aM)
  (aA (aX (aj (aX (aj (mG (aa 1)) (aj (kS [115,105,103,110]) (aj (ak gIx (aa 3) (kI 0)) ao)))) (aj (kI 1) ao))))))))))))
def uY:=aG 4 Af
def QnU:ZV G "_law_item" ["_law_text","_law_at"] 1 [.s,.s] uY:=by
 exists G.f93,["_law_text","_law_at","_law_colours","_law_here"],[.v,.v]
def QnC :=
 (aq (aB 1 (bJ ao))
  (aq (aB 2 (kI 0))
  (aq (kj wF (az (ak gLt (aa 2) (aU bc (aj (aa 0) ao)))) (aq (pY (aC uY (aj (aa 0) (aj (aa 2) ao))) (cW 2 (bB (mgN 3) (bB (mgN 4) dC))))
  (aq (eG 1 (aa 3))
  (aB 2 (ak aH (aa 2) (aa 4))))))
  (aA (aa 1)))))
def Ag:=aG 5 QnC
def Qmw:ZO G "_law_items" ["_law_text"] 2 [.s] Ag:=by
 have:=QnU G
 exists G.f94,["_law_text","_law_items_here","_law_at","_law_item_here","_law_size"],[.o,.v,.v,.v]
def Ah :=
 (aq (aB 2 (kS [97,98,99,100,101,102,103,104,105,106,107,108,109,110,111,112,113,114,115,116,117,118,119,120,121,122]))
  (aq (aB 3 (jC (bO (eE (aj (kI 8) ao)) 1 [0,2] (mgN 0) bV (ak gIx (aa 2) (ak b8 (aC cT (aj (aa 1) (aj (ak aH (kI 20) (aa 0)) ao))) (kI 26))))))
  (aq (aB 4 (bO (eE (aj (aa 1) ao)) 1 [3] (mgN 0) bV (mSl (aa 1) moN (moS (ak jA (kI 8) (aa 0))))))
  (aq (aJ (az (ak gGt (ak b8 (aC cT (aj (aa 0) (aj (kI 28) ao))) (kI 3)) (kI 0))) (aq (aB 5 (ak aH (kI 1) (ak b8 (aC cT (aj (aa 0) (aj (kI 29) ao))) (kI 8))))
  (aq (aB 6 (ak b8 (aC cT (aj (aa 0) (aj (kI 30) ao))) (aa 5)))
  (aq (aB 7 (ak b8 (aC cT (aj (aa 0) (aj (kI 31) ao))) (kI 20)))
  (aB 4 (bO (eE (aj (aa 1) ao)) 1 [2,3,5,6,7] (mgN 0) bV (ak aH (ak aH (mSl (aa 2) moN (moS (aa 4))) (ak gIx (aa 1) (ak aH (aa 5) (aa 0)))) (mSl (aa 2) (moS (ak aH (aa 4) (kI 1))) (moS (aa 3))))))))) aM)
  (aq (aJ (az (ak gEq (ak b8 (aC cT (aj (aa 0) (aj (kI 32) ao))) (kI 2)) (kI 0))) (tW 4) aM)
  (aA (aa 4)))))))
def Ai:=aG 8 Ah
def Ql3:ZO G "_law_names" ["_law_cell_here","_law_many"] 2 [.s,.s] Ai:=by
 have:=Ae G
 exists G.f95,["_law_cell_here","_law_many","_law_letters","_law_base","_law_names_here","_law_size","_law_at","_law_first"],[.v,.v,.o,.v,.v,.v]
 refine fX (aO qG) ["_law_cell_here","_law_many","_law_letters","_law_base","_law_names_here","_law_size","_law_at","_law_first"] ["_law_k"] [0,2] rfl ?_ (λ_ _ _ _ P=>?_) (λ_ _ _ _ P=>?_) (λ_ _ _ _ P=>?_)
 symm
 refine Fq (i:=4) (aO qG) ["_law_cell_here","_law_many","_law_letters","_law_base","_law_names_here","_law_size","_law_at","_law_first"] ["_law_k"] [3] Jj.nd rfl (.inl rfl) rfl ?_ (λ_ _ _ _ P=>?_) (λ_ _ _ _ P=>?_) (λ_ _ _ _ P=>?_)
 symm
 refine Fq (i:=4) (aO qG) ["_law_cell_here","_law_many","_law_letters","_law_base","_law_names_here","_law_size","_law_at","_law_first"] ["_law_k"] [2,3,5,6,7] Jj.nd rfl (.inl rfl) rfl ?_ (λ_ _ _ _ P=>?_) (λ_ _ _ _ P=>?_) (λ_ _ _ _ P=>?_)
 symm
def Aj :=
 (aq (aB 2 (ak gIx (kS [97,98,99,100,101,102,103,104,46]) (ak b8 (aC cT (aj (aa 0) (aj (kI 1) ao))) (kI 9))))
  (aq (aB 3 (ak b8 (aC cT (aj (aa 0) (aj (kI 0) ao))) (kI 10)))
  (aq (aJ (az (ak gLt (aa 3) (kI 2))) (aA (ak gIx (bJ (aj (ak aH (ak aH (kS [91]) (aa 2)) (kS [93])) (aj (ak aH (ak aH (kS [91,47]) (aa 2)) (kS [93])) ao))) (aa 3))) aM)
  (aq (aJ (az (ak gEq (aa 3) (kI 2))) (aA (ak gIx (bJ (aj (kS [91,93]) (aj (kS [10]) (aj (kS [9]) (aj (ak aH (kS [91,47]) (aa 2)) ao))))) (ak b8 (aC cT (aj (aa 0) (aj (kI 3) ao))) (kI 4)))) aM)
  (aq (aJ (az (ak gEq (aa 3) (kI 3))) (aA (kS [10])) aM)
  (aq (aB 4 (ak gIx (bJ (aj (kS [105,106,107,108,88,89,48]) (aj (kS [109,110,111,112,81,82,49]) (aj (kS [113,114,115,116,76,77,50]) (aj (kS [117,118,119,120,84,85,51]) ao))))) (aa 1)))
  (aA (jC (bO (eE (aj (ak aH (kI 1) (ak b8 (aC cT (aj (aa 0) (aj (kI 12) ao))) (kI 4))) ao)) 1 [0,4] (mgN 0) bV (ak gIx (aa 2) (ak b8 (aC cT (aj (aa 1) (aj (ak aH (kI 4) (aa 0)) ao))) (kI 7))))))))))))
def Ak:=aG 5 Aj
def Qnt:ZV G "_law_piece" ["_law_cell_here","_law_at"] 2 [.s,.s] Ak:=by
 have:=Ae G
 exists G.f96,["_law_cell_here","_law_at","_law_colour","_law_way","_law_signs"],[.v,.v,.v]
 refine fX (aO Jf) ["_law_cell_here","_law_at","_law_colour","_law_way","_law_signs"] ["_law_k"] [0,4] rfl ?_ (λ_ _ _ _ P=>?_) (λ_ _ _ _ P=>?_) (λ_ _ _ _ P=>?_)
 symm
def QiS :=
 (aA (bO (bz (aC Ag (aj (aa 0) ao))) 3 [] (cW 3 (bB (mgN 0) (bB (mgN 1) (bB (mgN 2) dC)))) (az (ak gEq (aa 1) (kS [115,105,103,110]))) (aa 2)))
def uZ:=aG 1 QiS
def Qig:ZO G "_law_signs_seen" ["_law_body_here"] 3 [.s] uZ:=by
 have:=Qmw G
 exists G.f97,["_law_body_here"],[]
 refine fX (aO Jg) ["_law_body_here"] ["_law_place","_law_kind","_law_value"] [] rfl ?_ (λ_ _ _ _ P=>?_) (λ_ _ _ _ P=>?_) (λ_ _ _ _ P=>?_)
 symm
def QpI :=
 (aA (mSl (aa 0) (moS (ak aH (aa 1) (kI 1))) moN))
def u0:=aG 2 QpI
def QnF:ZV G "_law_body" ["_law_row","_law_wide"] 1 [.s,.s] u0:=by
 exists G.f98,["_law_row","_law_wide"],[]
def bCl:MS:=(dJ (aQ "Roll" "close" uX (aa 3) (aj (aa 6) ao)))
def bFd:MS:=(aq (aB 5 (ak b8 (aC cT (aj (aa 4) (aj (kI 3) ao))) (aU bc (aj (aa 2) ao))))
  (dJ (aQ "Roll" "feed" uW (aa 3) (aj (ak gIx (aa 2) (aa 5)) (aj (aC Ak (aj (aa 4) (aj (aa 5) ao))) ao)))))
def bCk:MS:=(aq (aB 12 (aC qU (maD (aj (aa 2) (aj (bJ (aj (ak gIx (aa 7) (aa 11)) ao)) ao)) (.bl false))))
  (aq (aB 13 (bO (bz (aa 2)) 1 [12] (mgN 0) (az (ak gNe (gw (aa 1) (aa 0)) (bJ ao))) (aa 0)))
  (aq (aJ (cC (az (ak gNe (aU bc (aj (aa 13) ao)) (kI 1))) (az (ak gNe (gw (aa 12) (ak gIx (aa 13) (kI 0))) (bJ (aj (ak gIx (gw (aa 8) (ak gIx (aa 13) (kI 0))) (gw (aa 10) (ak gIx (aa 13) (kI 0)))) ao))))) (aA (mC (.bl false))) aM)
  (aq (lY (aa 10) (ak gIx (aa 13) (kI 0)) (ak aH (gw (aa 10) (ak gIx (aa 13) (kI 0))) (kI 1)))
  (aq (aB 14 (ak aH (ak gIx (bJ (aj (kS [105,106,107,108,88,89,48]) (aj (kS [109,110,111,112,81,82,49]) (aj (kS [113,114,115,116,76,77,50]) (aj (kS [117,118,119,120,84,85,51]) ao))))) (uq (aa 2) (ak gIx (aa 13) (kI 0)))) (kS [91,47,97,98,99,100,101,102,103,104,46])))
  (aq (aB 15 (aC u0 (aj (ak gIx (aa 7) (aa 11)) (aj (aa 9) ao))))
  (aq (aJ (cC (az (ak gNe (bO (bz (aC uZ (aj (aa 15) ao))) 1 [14] (mgN 0) (az (ak (gIn true) (aa 0) (aa 1))) (aa 0)) (bJ ao))) (cC (az (ak (gIn false) (kS [10]) (aa 15))) (az (ak (gIn false) (kS [9]) (aa 15))))) (aA (mC (.bl false))) aM)
  (aq (aB 16 (aC u0 (aj (ak gIx (aa 7) (ak jA (aa 11) (kI 1))) (aj (aa 9) ao))))
  (aJ (az (ak gNe (aC iM (aj (ak aH (aa 16) (aa 15)) ao)) (ak aH (aC iM (aj (aa 16) ao)) (aC iM (aj (aa 15) ao))))) (aA (mC (.bl false))) aM)))))))))
def Al:MS :=
  (aq (aB 1 (aC qW (aj (aa 0) (aj (kI 0) ao)))) (aq (aB 2 (aC Ai (aj (aa 1) (aj (ak aH (kI 2) (ak b8 (aC cT (aj (aa 1) (aj (kI 33) ao))) (kI 3))) ao)))) (aq (aB 3 (dh "Roll" z9 (maD (aj (aa 2) (aj (ak aH (kI 1) (ak b8 (aC cT (aj (aa 1) (aj (kI 34) ao))) (kI 9))) ao)) (.bl false)))) (aq (bW (bz (mSl (aa 0) (moS (kI 1)) (moS (kI 51)))) (mgN 4) bFd) (aq (bW (bz (GC (aa 2) (mUn nP (kI 1)))) (mgN 6) bCl) (aq (aB 7 (aQ "Roll" "told_rows" Aa (aa 3) ao)) (aq (aB 8 (aC qU (maD (aj (aa 2) (aj (aa 7) ao)) (.bl false)))) (aq (aB 9 (aU lZ (aj (bO (bz (aa 2)) 1 [] (mgN 0) bV (aU bc (aj (aa 0) ao))) ao))) (aq (aB 10 (um (aj (bO (bz (aa 2)) 1 [] (mgN 0) bV (aX (aj (aa 0) (aj (kI 0) ao)))) ao))) (aq (bW (eE (aj (aU bc (aj (aa 7) ao)) ao)) (mgN 11) bCk) (aA (ak gEq (aU bc (aj (aa 7) ao)) (aU nQ (aj (qw (aa 10)) ao))))))))))))))
def Ka:=aG 17 Al
def QyW:ZV G "law" ["_law_script"] 12 [.s] Ka:=by
 have:=QnO G
 have:=Ql3 G
 have:=Ae G
 have:=QiX G
 have:=Qnq G
 have:=Qnt G
 have:=Qly G
 have:=Qif G
 have:=Qsc G
 have:=QnF G
 have:=Qig G
 have:=J2 G
 exists G.f99,["_law_script","_law_cell_here","_law_names_here","_law_roll","_law_one","_law_at","_law_name","_law_rows","_law_whole","_law_wide","_law_spots","_law_k","_law_alone","_law_mine","_law_signs","_law_body_here","_law_ahead"],[.v,.v,.v,.v,.v,.v,.v,.v,.v,.v,.v,.v,.v,.v,.v,.v]
 refine fX (aO gG) ["_law_script","_law_cell_here","_law_names_here","_law_roll","_law_one","_law_at","_law_name","_law_rows","_law_whole","_law_wide","_law_spots","_law_k","_law_alone","_law_mine","_law_signs","_law_body_here","_law_ahead"] ["_law_name"] [] rfl ?_ (λ_ _ _ _ P=>?_) (λ_ _ _ _ P=>?_) (λ_ _ _ _ P=>?_)
 symm
 refine fX (aO gG) ["_law_script","_law_cell_here","_law_names_here","_law_roll","_law_one","_law_at","_law_name","_law_rows","_law_whole","_law_wide","_law_spots","_law_k","_law_alone","_law_mine","_law_signs","_law_body_here","_law_ahead"] ["_law_name"] [] rfl ?_ (λ_ _ _ _ P=>?_) (λ_ _ _ _ P=>?_) (λ_ _ _ _ P=>?_)
 symm
 refine Fp (i:=13) (aO gG) ["_law_script","_law_cell_here","_law_names_here","_law_roll","_law_one","_law_at","_law_name","_law_rows","_law_whole","_law_wide","_law_spots","_law_k","_law_alone","_law_mine","_law_signs","_law_body_here","_law_ahead"] ["_law_name"] [12] QxM.nd rfl (.inl rfl) rfl ?_ (λ_ _ _ _ P=>?_) (λ_ _ _ _ P=>?_) (λ_ _ _ _ P=>?_)
 symm
 refine fX (aO gG) ["_law_script","_law_cell_here","_law_names_here","_law_roll","_law_one","_law_at","_law_name","_law_rows","_law_whole","_law_wide","_law_spots","_law_k","_law_alone","_law_mine","_law_signs","_law_body_here","_law_ahead"] ["_law_sign"] [14] rfl ?_ (λ_ _ _ _ P=>?_) (λ_ _ _ _ P=>?_) (λ_ _ _ _ P=>?_)
 symm
end
def aP      (d:a ρ O=.ok x O)(hb:b ρ O=.ok y O)(h:g (aV O x) (aV O y)=some z):ak g a b ρ O=.ok z O:=by
 rw[xY,d,aL,hb,aL,h,jF]
def ma1     (h:a ρ O=.ok x O):aj a ao ρ O=.ok [x] O:=by
 rw[jJ,h,aL,mJ,aL]
def maS       (h:a ρ O=.ok x O)(h2:r ρ O=.ok xs O):aj a r ρ O=.ok (x::xs) O:=by
 rw[jJ,h,aL,h2,aL]
def qX     (h:m ρ O=.ok xs O)(d:xs.length<=1000000):aX m ρ O=.ok (.tup xs) O:=by
 rw[Hq,h,aL,if_pos d]
def Kc     (h:m ρ O=.ok xs O)(d:xs.length<=1000000):bJ m ρ O=.ok (.lst xs) O:=by
 rw[Ho,h,aL,if_pos d]
def gW       (h:m ρ O=.ok xs O)(d:g (xs.map (aV O))=some z):aU g m ρ O=.ok z O:=by
 rw[xZ,h,aL,d,jF]
def u6       (f:m ρ O=.ok d O)(h:ρ[i]?=some (some (.lst ds)))(j:ds.length<1000000):eG i m ρ O=.nx (ρ.set i (some (.lst (ds++[d])))) O:=by
 rw[yj,f,ym h j]
def bh      (h:m ρ O=.ok d O):aB i m ρ O=.nx (ρ.set i (some d)) O:=by
 rw[qz,h,qC]
def bw      (h:ma ρ O=.ok ds O):aC c ma ρ O=c ds O:=by
 rw[oE,h,aL]
def bR     (h:m ρ O=.ok (.bl b) O):az m ρ O=.ok b O:=by
 rw[Hm,h,aL,Hl]
def eZ     (h:t ρ O=.ok true O):aJ t a b ρ O=a ρ O:=by
 rw[lr,h,uw,if_pos rfl]
def cI     (h:t ρ O=.ok false O):aJ t a b ρ O=b ρ O:=by
 rw[lr,h,uw,if_neg zA]
def lD     (h:m ρ O=.ok (.lst l) O):aU bc (aj m ao) ρ O=.ok (.int (l.length:Int)) O:=gW (ma1 h) rfl
def Am     (h:m ρ O=.ok (.int (n:Int)) O)(d:n<=1000000):eE (aj m ao) ρ O=.ok (fY 0 n) O:=by
 rw[QzN,ma1 h];show(if(n:Int)<=1000000000/\-1000000000<=(n:Int) then Res.ok _ O else .no)=_;rw[if_pos ⟨by omega,by omega⟩,Int.toNat_natCast]
def dU     (f:a ρ O=.ok (.int i) O)(hb:b ρ O=.ok (.int j) O)(d:0<j):ak b8 a b ρ O=.ok (.int (i % j)) O:=aP f hb (by rw[jG,jG,QzA,if_pos d])
def mV     (d:a ρ O=.ok (.int i) O)(hb:b ρ O=.ok (.int j) O):ak aH a b ρ O=.ok (.int (i+j)) O:=aP d hb rfl
def An     (d:a ρ O=.ok (.int i) O)(hb:b ρ O=.ok (.int j) O):ak jA a b ρ O=.ok (.int (i - j)) O:=aP d hb rfl
def u9     (d:a ρ O=.ok (.int i) O)(hb:b ρ O=.ok (.int j) O):az (ak gLt a b) ρ O=.ok (decide (i<j)) O:=bR (aP d hb rfl)
def jR     (d:a ρ O=.ok (.int i) O)(hb:b ρ O=.ok (.int j) O):az (ak gEq a b) ρ O=.ok (decide (i=j)) O:=bR (aP d hb rfl)
def Kd       (h:a ρ O=.ok x f)(h2:r ρ f=.ok xs d):aj a r ρ O=.ok (x::xs) d:=by
 rw[jJ,h,aL,h2,aL]
def oW     (h:a ρ O=.ok x d):aj a ao ρ O=.ok [x] d:=Kd h rfl
def iQ      (h:m ρ O=.ok d f):aB i m ρ O=.nx (ρ.set i (some d)) f:=by
 rw[qz,h,qC]
def ifN     (h:t ρ O=.ok false d):aJ t a aM ρ O=.nx ρ d:=by
 rw[lr,h];rfl
def ifY     (h:t ρ O=.ok true d):aJ t a b ρ O=a ρ d:=by
 rw[lr,h];rfl
def Ke      (h:ma ρ O=.ok ds d):aC c ma ρ O=c ds d:=by
 rw[oE,h,aL]
def qY      (d:a ρ O=.ok x j)(hb:b ρ j=.ok y f)(h:g (aV f x) (aV f y)=some z):ak g a b ρ O=.ok z f:=by
 rw[xY,d,aL,hb,aL,h,jF]
def Qxx     (h:m ρ O=.ok (.bl b) d):az m ρ O=.ok b d:=by
 rw[Hm,h,aL,Hl]
def fc       (f:g d ρ=some ρ1)(hb:b ρ1 O=.nx ρ2 j):bj g b (d::ds) ρ O=bj g b ds ρ2 j:=by
 conv=>lhs;unfold bj
 rw[f]
 dsimp
 rw[hb]
def QBv       (f:g d ρ=some ρ1)(hb:b ρ1 O=.rt x j):bj g b (d::ds) ρ O=.rt x j:=by
 conv=>lhs;unfold bj
 rw[f]
 dsimp
 rw[hb]
def st(c:Nat):D:=.str [c]
def kz(ks:List Nat):List (List Nat):=ks.map λc=>[c]
def Ao  :[c]∈kz ks↔c∈ks:=by simp[kz]
theorem Kf:∀ks:List Nat,strsT (ks.map st)=some (kz ks)
 | []=>rfl
 |c::ks=>by
  show(strsT _).map _=_;rw[Kf];rfl
def mW(ks:List Nat):List Nat:=(jE (kz ks)).map λl=>l.headD 0
def Kg   (h:l∈kz ks):∃c,l=[c]/\c∈ks:=by
 obtain⟨c,d,rfl⟩:=zz.mp h;exact⟨c,rfl,d⟩
def Aq(ks:List Nat):jE (kz ks)=kz (mW ks):=by
 unfold mW kz;rw[zO]
 conv=>lhs;rw[<-List.map_id (jE _)]
 refine zY λl d=>?_
 obtain⟨c,rfl,_⟩:=Kg ((tZ l _).mp d);rfl
def Ar(ks:List Nat)(c:Nat):c∈mW ks↔c∈ks:=by
 rw[<-Ao,<-Aq,tZ,Ao]
def Kh(ks:List Nat):(mW ks).Nodup:=by
 have h:=xN (kz ks);rw[Aq] at h;unfold kz at h;rw[List.pairwise_map] at h
 exact h.imp λ{a b} hab e=>by
  subst e;exact List.lt_irrefl _ hab
theorem sub_len{α:Type}[DecidableEq α]:∀(l m:List α),l.Nodup->(∀x∈l,x∈m)->l.length<=m.length
 | [],_,_,_=>Nat.zero_le _
 |x::l,m,h,hs=>by
  obtain⟨h1,h2⟩:=List.nodup_cons.mp h;have hx:=hs x zd
  have:=sub_len l (m.erase x) h2 λy d=>(List.mem_erase_of_ne λe=>h1 (by rw[<-e];exact d)).mpr (hs y (zm _ d))
  rw[List.length_erase_of_mem hx] at this;have f:=List.length_pos_of_mem hx;rw[zw];omega
def Qt0{M:List Nat}(h:∀c∈ks,c∈M):(mW ks).length<=M.length:=sub_len _ _ (Kh ks) λc d=>h c ((Ar ks c).mp d)
def QwB{M:List Nat}(h:∀c∈ks,c∈M):((kz ks).foldl stepT []).length<=M.length:=by
 have:=sub_len _ _ (xO _ [] .nil) λl d=>by
  rcases(t8 l _ []).mp d with z | z
  ·cases z
  ·obtain⟨c,rfl,f⟩:=Kg z;exact Ao.mpr (h c f)
 unfold kz at this ⊢
 rwa [zf] at this
def Qxe{M:List Nat}(h0:ks≠[])(d:ks.length<4000)(h:∀c∈ks,c∈M)(f:M.length<64):ud [.lst (ks.map st)]=some (.lst ((mW ks).map st)):=by
 show uc (.lst _)=_;unfold uc
 dsimp
 rw[Kf]
 dsimp
 have hl':(kz ks).length<4000:=by unfold kz;rw[zf];exact d
 have h0':kz ks≠[]:=λe=>h0 (by exact List.map_eq_nil_iff.mp e)
 rw[if_pos ⟨hl',h0',Nat.lt_of_le_of_lt (QwB h) f⟩,Aq];unfold kz;rw[zO];rfl
def gY         (hv:y ρ O=.ok d x)(j:mo ρ x=.ok (.ob n) x)(u:x[n]?=some (.ins c fs))(t:c∈C)(m:fs.length<900):
  bF C f mo y ρ O=.nx ρ (x.set n (.ins c (putD f d fs))):=by
 rw[yg,hv,yh,j];unfold puF
 dsimp
 rw[u]
 dsimp
 rw[if_pos ⟨t,m⟩]
def dW         (j:m ρ O=.ok (.ob n) O)(u:O[n]?=some (.ins c fs))(t:c∈x)(d:fs.lookup f=some y):
  bf x f m ρ O=.ok y O:=by
 rw[Ij,j];unfold dR
 dsimp
 rw[u]
 dsimp
 rw[if_pos t,d]
def cU          (d:mo ρ O=.ok (.ob n) O)(t:O[n]?=some (.ins c fs))(f:(fs.lookup m).isNone=true)(j:ma ρ O=.ok ds O):
  aQ c m cf mo ma ρ O=cf (.ob n::ds) O:=by
 rw[uA,d];unfold meF
 dsimp
 rw[t]
 dsimp
 rw[if_pos ⟨rfl,f⟩,j,aL]
def fO{O:au} :(O++[o])[O.length]?=some o:=by
 rw[zL (zc _),Nat.sub_self];rfl
def qZ{O:au}{o:Ob}:(O++[o]).set O.length d=O++[d]:=by
 rw[List.set_append_right _ _ (zc _),Nat.sub_self];rfl
def dj     (h:m ρ O=.ok (.lst l) O):bz m ρ O=.ok l O:=by
 rw[oF,h,aL,Qrj,yc]
def jT  {own:Nat}        (h:m ρ O=.ok ds O)(d:ds.length<=1000000)(h0:dM own cap ρ=j)(f:b7 g t e ds j O []=.ok ys u):bO m own cap g t e ρ O=.ok (.lst ys) u:=by
 rw[oG,h,aL,if_pos d,h0,f,aL]
def Av      (h:m ρ O=.ok d O)(hd:aV O d=.lst l):aU lW (aj m ao) ρ O=.ok (.lst l) O:=by
 rw[xZ,ma1 h,aL,zg,zX,hd,Qw8,jF]
def not_no     (h:m ρ O=.ok (.bl true) O):aJ (dB (bK m)) s aM ρ O=.nx ρ O:=by
 rw[lr,mH,jH,h,aL,mz,mF,oA,aL];rfl
def Aw    (h:m ρ O=.ok (.bl true) O):dB (bK m) ρ O=.ok false O:=by
 rw[mH,jH,h,aL,mz,mF];rfl
def or_f    (h1:t1 ρ O=.ok false O)(h2:t2 ρ O=.ok false O):cC t1 t2 ρ O=.ok false O:=by
 rw[ur,h1,aL,if_neg zA,h2]
def vd      (h:m ρ O=.ok d f):aB i m ρ O=.nx (ρ.set i (some d)) f:=by
 rw[qz,h,qC]
def QAS     (h:m ρ O=.ok (.bl b) O):bK m ρ O=.ok b O:=by
 rw[jH,h,aL,mz,mF,oA]
def Ay      (h:m ρ O=.ok d O)(f:tyD (aV O d)=some t):gn n m ρ O=.ok (.bl (dg t n)) O:=by
 rw[Hs,h,aL,f,Hr]
def fj     (h:m ρ O=.ok d f):aA m ρ O=.rt d f:=by rw[dO,h];rfl
def aR    (h:a ρ O=.nx d f):aq a b ρ O=b d f:=by rw[eV,h,jK]
def jU     (h:t ρ O=.ok false O):aJ t a aM ρ O=.nx ρ O:=by rw[cI h];rfl
abbrev L3:=Nat×Nat×Nat
def dK(x:L3):D:=.tup [st x.1,st x.2.1,st x.2.2]
def pr(p:Nat×Nat):D:=.tup [st p.1,st p.2]
def sgn(c:Nat):List Nat:=if c=91 then[91,91] else[c]
def Qxz(c:Nat)(O:au):jQ [.str bu,st c] O=.ok (.str (sgn c)) O:=by
 unfold sgn
 by_cases h:c=91
 ·subst h;rfl
 ·have e:gEq (.str [c]) (.str [91])=some (.bl false):=by rw[QBz,zq λz=>h (by injection z)]
  rw[if_neg h];show aY _=_;unfold Jz;rw[eV,eZ rfl,dO,iD,bR (aP rfl rfl e)];rfl
def QDY(c:Nat)(O:au):jQ [.str eX,st c] O=.ok (.str [91,c,93]) O:=rfl
def QCv(c:Nat)(O:au):jQ [.str fJ,st c] O=.ok (.str [91,47,c,93]) O:=rfl
def QvY(O:au):jQ [.str jM,.str []] O=.ok (.str [91,93]) O:=rfl
def vf(a b:Nat):gEq (st a) (st b)=some (.bl (decide (a=b))):=by
 show some _=_;rw[show decide _=decide (a=b) from decide_eq_decide.mpr ⟨λh=>by injection h,λh=>by rw[h]⟩]
def add_l     (d:a ρ O=.ok (.lst l) O)(hb:b ρ O=.ok (.lst m) O)(h:l.length+m.length<=1000000):ak aH a b ρ O=.ok (.lst (l++m)) O:=aP d hb (by
 show(if l.length+m.length<=1000000 then some _ else none)=_
 rw[if_pos h])
def QAx  {i:Nat}  (h:(i=1/\c=x.2.1)\/(i=2/\c=x.2.2)):gIx (dK x) (.int (i:Int))=some (st c):=by
 rcases h with⟨rfl,rfl⟩ | ⟨rfl,rfl⟩<;>rfl
def QzD(l:List L3)(i:Nat)(f:L3->Nat)(u:∀x,(i=1/\f x=x.2.1)\/(i=2/\f x=x.2.2)){M:List Nat}(C:l.length<=1000)(y:M.length<64)(j:46∈M)(h:∀x∈l,f x∈M)(O:au):
  qT [.lst (l.map dK),.int (i:Int)] O=.ok (.lst ((mW (46::l.map f)).map st)) O:=by
 show aY (yX [some _,some _] O)=_;unfold yX
 have c:=iH (g:=mgN 0) (t:=bV) (m:=ak _ (aa 0) (aa 1)) (λρ=>∃a,ρ=[a,some _]) dK _ l [none,some (.int _)] O [] ⟨_,rfl⟩ (by
  rintro x hx ρ ⟨a,rfl⟩
  exact⟨_,rfl,⟨_,rfl⟩,rfl,aP rfl rfl (QAx (u x))⟩)
 rw[zU] at c;have e:=jT (m:=bz (aa 0)) (ρ:=[some _,some _]) (own:=1) (cap:=[1]) (dj rfl) (by rw[zf];omega) rfl c;rw[dO,gW (ma1 (add_l rfl e (by rw[zf];show 1+_<=_;omega)))]
 ·rfl
 ·have:=Qxe (ks:=46::l.map f) (by simp) (by rw[zw,zf];omega) (λc d=>by
   rcases zk.mp d with rfl | d
   ·exact j
   ·obtain⟨x,hx,rfl⟩:=zz.mp d
    exact h x hx) y
  rw[zg,zO] at this;exact this
def Az    (h:T ρ O=.ok true O):cV T U ρ O=U ρ O:=by rw[Hn,h];rfl
def QCW    (h:T ρ O=.ok true O):cC T U ρ O=.ok true O:=by rw[ur,h];rfl
def Kl    (h:T ρ O=.ok false O):cC T U ρ O=U ρ O:=by rw[ur,h];rfl
def Ba     (h:m ρ O=.ok d O):iw m ρ O=.ok (.bl (isNon d)) O:=by rw[QAo,h];rfl
def jV     (h:T ρ O=.ok b O)(h2:U ρ O=.ok c O):cV T U ρ O=.ok (b&&c) O:=by
 rw[Hn,h,aL,h2];cases b<;>rfl
def Km     (h:r ρ O=.ok ds O)(d:ds.length<=1000000):aX r ρ O=.ok (.tup ds) O:=by rw[Hq,h,aL,if_pos d]
def drp     (h:m ρ O=.ok d f):dJ m ρ O=.nx ρ f:=by rw[qx,h];rfl
def orb     (h:T ρ O=.ok b O)(h2:U ρ O=.ok c O):cC T U ρ O=.ok (b || c) O:=by
 rw[ur,h,aL,h2];cases b<;>rfl
def v9     (h:m ρ O=.ok (.bl b) O):bK m ρ O=.ok b O:=by rw[jH,h];rfl
def QAJ(a b:List Nat):(S a == S b)=decide (a=b):=by
 by_cases h:a=b
 ·subst h;rw[zv rfl];exact beq_self_eq_true _
 ·rw[zq h]
  refine beq_eq_false_iff_ne.mpr λz=>h ?_
  have:=congrArg (λx =>x.cps.toList) z
  simpa [lN]
def sq    (h:a ρ O=.nx d f):aq a b ρ O=b d f:=by
 rw[eV,h,jK]
def fQ        (h:m ρ O=.ok ds f)(d:bj g b ds ρ f=r):bW m g b ρ O=r:=by rw[qD,h,qF,d]
def Bb      (h:m ρ O=.ok d f):aB i m ρ O=.nx (ρ.set i (some d)) f:=by
 rw[qz,h,qC]
abbrev Nd:=Int×(Nat×Nat)
def dN(n:Nd):D:=.tup [.int n.1,pr n.2]
def key(n:Nd):NK:=(n.1,[.inr (S [n.2.1]),.inr (S [n.2.2])])
def Bc(n:Nd):qm (dN n)=some (key n):=rfl
def nG  (h:S [a]=S [b]):a=b:=by
 have:=QAJ [a] [b]
 rw[h,beq_self_eq_true] at this;have q:=zP this.symm
 injection q
def q9 :key a=key b↔a=b:=by
 constructor
 ·intro h;have h1:=congrArg Prod.fst h;have h2:=congrArg Prod.snd h;have h2' :=h2
  injection h2' with f d
  injection f with f
  injection d with d _
  injection d with d
  exact Prod.ext h1 (Prod.ext (nG f) (nG d))
 ·intro h;rw[h]
structure M3 where
 cost:Int
 name:List Nat
 other:Nd
def d3(m:M3):D:=.tup [.int m.cost,.str m.name,dN m.other]
def pD:Option Int->D
 |none=>.non
 |some i=>.int i
abbrev Tb:=List (Nd×Option Int)
def tab(ps:Tb):List (NK×D):=ps.map λx=>(key x.1,pD x.2)
def lk(ps:Tb)(n:Nd):Option (Option Int):=(ps.find? λx=>decide (x.1=n)).map (·.2)
def put(ps:Tb)(n:Nd)(v:Option Int):Tb:=if(ps.any λx=>decide (x.1=n))=true then ps.map (λx=>if x.1=n then(x.1,v) else x) else ps++[(n,v)]
theorem Ko(n:Nd):∀ps:Tb,valN (tab ps) (key n)=(lk ps n).map pD
 | []=>rfl
 |x::ps=>by
  have d:=Ko n ps;unfold valN lk tab;rw[zg,List.find?_cons,List.find?_cons]
  by_cases h:x.1=n
  ·simp[h]
  ·have h':¬key _=key n:=λz=>h (q9.mp z)
   simp only[h,h'];exact d
theorem Kq(n:Nd):∀ps:Tb,((tab ps).any λp=>decide (p.1=key n))=ps.any λx=>decide (x.1=n)
 | []=>rfl
 |x::ps=>by
  have d:=Kq n ps;unfold tab;rw[zg,List.any_cons];congr 1;exact decide_eq_decide.mpr q9
def Qwj(ps:Tb)(n:Nd)(v:Option Int):putN (tab ps) (key n) (pD v)=tab (put ps n v):=by
 unfold putN put;rw[Kq]
 split
 ·unfold tab;rw[zO,zO]
  refine zY λx _=>?_
  by_cases h:x.1=n
  ·simp[h]
  ·have h':¬key _=key n:=λz=>h (q9.mp z)
   simp[h,h']
 ·unfold tab;rw[zM];rfl
theorem Bd :∀{ps:Tb},(ps.any λx=>decide (x.1=n))=false->lk ps n=none
 | [],_=>rfl
 |x::ps,h=>by
  rw[List.any_cons,Bool.or_eq_false_iff] at h
  have:=Bd h.2
  unfold lk;rw[List.find?_cons,h.1];exact this
def oX(x:Nd×Option Int)(ps:Tb)(n:Nd):lk (x::ps) n=if x.1=n then some x.2 else lk ps n:=by
 unfold lk
 by_cases h:x.1=n
 ·simp[h]
 ·simp[h]
theorem Kr(n:Nd)(y:Nd×Option Int):∀ps:Tb,lk (ps++[y]) n=if(lk ps n).isSome=true then lk ps n else if y.1=n then some y.2 else none
 | []=>by
  rw[zU,oX];rfl
 |x::ps=>by
  rw[List.cons_append,oX,oX,Kr ]
  by_cases h:x.1=n
  ·simp[h]
  ·simp[h]
theorem Ks(n m:Nd)(v:Option Int):∀ps:Tb,lk (ps.map λx=>if x.1=n then(x.1,v) else x) m=if m=n then(lk ps m).map λ_=>v else lk ps m
 | []=>by simp[lk]
 |x::ps=>by
  rw[zg,oX,oX,Ks ]
  by_cases h:x.1=n
  ·by_cases d:m=n
   ·subst d;simp[h]
   ·have:¬n=m:=λz=>d z.symm
    simp[h,this]
  ·by_cases hx:x.1=m
   ·have:¬m=n:=λz=>h (hx.trans z)
    simp[h,this]
   ·simp[h,hx]
theorem Ku :∀{ps:Tb},(ps.any λx=>decide (x.1=n))=true->(lk ps n).isSome=true
 |x::ps,h=>by
  rw[oX]
  by_cases hx:x.1=n
  ·simp[hx]
  ·rw[if_neg hx];rw[List.any_cons,zq hx] at h;exact Ku h
def Kv(ps:Tb)(n m:Nd)(v:Option Int):lk (put ps n v) m=if m=n then some v else lk ps m:=by
 unfold put
 split
 ·rename_i h;rw[Ks]
  split
  ·rename_i d;subst d
   have:=Ku h
   cases e:lk ps m with
   |none=>rw[e] at this;cases this
   |some w=>rfl
  ·rfl
 ·rename_i h;have h0:=Bd (Bool.eq_false_iff.mpr h);rw[Kr]
  by_cases d:m=n
  ·subst d;simp[h0]
  ·have:¬n=m:=λz=>d z.symm
   simp[d,this]
   cases lk ps m<;>simp
def QvJ(ps:Tb)(n:Nd)(v:Option Int):(put ps n v).length<=ps.length+1:=by
 unfold put
 split
 ·rw[zf];omega
 ·rw[ze];exact zc _
def Qxc    (h:(lk ps n).isSome=true):(put ps n v).length=ps.length:=by
 unfold put
 split
 ·rw[zf]
 ·rename_i d;rw[Bd (Bool.eq_false_iff.mpr d)] at h;cases h
def mX        (h1:mo ρ O=.ok (.ob p) O)(h2:O[p]?=some (.dn (tab ps)))(h3:my ρ O=.ok (dN n) O)(h4:lk ps n=some v):eQ mo my ρ O=.ok (pD v) O:=by
 unfold eQ;rw[h1]
 dsimp
 rw[h3]
 dsimp
 unfold nsG;rw[Bc,h2]
 dsimp
 rw[Ko,h4];rfl
def Qxy        (h1:mo ρ O=.ok (.ob q) O)(h2:O[q]?=some (.nf f))(h3:my ρ O=.ok (dN n) O)(h4:valN f (key n)=some d):eQ mo my ρ O=.ok d O:=by
 unfold eQ;rw[h1]
 dsimp
 rw[h3]
 dsimp
 unfold nsG;rw[Bc,h2]
 dsimp
 rw[h4]
def Kw        (h0:m ρ O=.ok d O)(h1:mo ρ O=.ok (.ob p) O)(h2:O[p]?=some (.dn j))(h3:my ρ O=.ok (dN n) O)(f:j.length<1000000):gC mo my m ρ O=.nx ρ (O.set p (.dn (putN j (key n) d))):=by
 unfold gC;rw[h0]
 dsimp
 rw[h1]
 dsimp
 rw[h3]
 dsimp
 rw[Bc,h2]
 dsimp
 rw[if_pos f]
def Ky        (h0:f ρ O=.ok (pD v) O)(h1:mo ρ O=.ok (.ob p) O)(h2:O[p]?=some (.dn (tab ps)))(h3:my ρ O=.ok (dN n) O)(d:ps.length<1000000):gC mo my f ρ O=.nx ρ (O.set p (.dn (tab (put ps n v)))):=
 (Kw h0 h1 h2 h3 (by unfold tab;rw[zf];exact d)).trans (by rw[Qwj])
def co(ps:Tb)(m:M3):Option Int:=match lk ps m.other with
 |some (some b)=>some (m.cost+b)
 | _=>none
def lc(ps:Tb)(ms:List M3):Option Int:=mdI none (ms.filterMap (co ps))
def Kz     (j:O[p]?=some (.dn (tab ps)))(t:(lk ps m.other).isSome=true):oU [d3 m,.ob p] O=.ok (pD (co ps m)) O:=by
 obtain⟨v,d⟩:=Option.isSome_iff_exists.mp t;have f:eQ (mG (aa 1)) (ak gIx (aa 0) (kI 2)) [some (d3 m),some (.ob p),none] O=.ok _ O:=mX rfl j (aP rfl rfl rfl) d;show aY (yL [some _,some _,none] O)=_;unfold yL;rw[sq (bh f)];unfold co;rw[d]
 cases v with
 | none
 |some b=>rfl
theorem ints_map:∀d:List Int,d9 (d.map D.int)=some d
 | []=>rfl
 |i::d=>by
  show(d9 _).map _=_;rw[ints_map];rfl
theorem KD(ps:Tb):∀ms:List M3,(ms.map λm=>pD (co ps m)).filter (λd=>!isNon d)=(ms.filterMap (co ps)).map D.int
 | []=>rfl
 |m::ms=>by
  rw[zg,List.filter_cons,List.filterMap_cons,KD ]
  cases co ps m<;>rfl
def KH     (u:O[p]?=some (.dn (tab ps)))(x:∀m∈ms,(lk ps m.other).isSome=true)(E:ms.length<=1000):qP [.lst (ms.map d3),.ob p] O=.ok (pD (lc ps ms)) O:=by
 have C:b7 (mgN 0) bV (aC oU (aj (aa 0) (aj (aa 1) ao))) (ms.map d3) [none,some (.ob p)] O []=.ok (ms.map λm=>pD (co ps m)) O:=by
  rw[iH (λρ=>∃a,ρ=[a,some _]) d3 _ ms _ _ _ ⟨none,rfl⟩ (by
   rintro m hm' ρ ⟨a,rfl⟩
   exact⟨_,rfl,⟨_,rfl⟩,rfl,(bw (maS rfl (ma1 rfl))).trans (Kz u (x m hm'))⟩)]
  rw[zU]
 have t:bO (bz (aa 0)) 1 [1] _ _ _ [some _,some _,none] O=.ok _ O:=jT (dj rfl) (by rw[zf];omega) rfl C
 have y:b7 (mgN 0) (az (kh (aa 0))) (aa 0) (ms.map λm=>pD (co ps m)) [none] O []=.ok ((ms.filterMap (co ps)).map D.int) O:=by
  rw[HW (λρ=>∃a,ρ=[a]) _ _ _ _ _ ⟨none,rfl⟩ (by
   rintro d hd ρ ⟨a,rfl⟩
   exact⟨_,rfl,⟨_,rfl⟩,rfl,rfl⟩)]
  rw[zU,KD]
 have j:bO (bz (aa 2)) 1 [] _ _ _ [some (.lst (ms.map d3)),some (.ob p),some _] O=.ok _ O:=jT (dj rfl) (by rw[zf];omega) rfl y
 have f:aU tQ _ _ O=.ok (pD (lc ps ms)) O:=gW (ma1 j) (by
  show(d9 _).map _=_;rw[ints_map];show some (match mdI _ _ with | some m=>D.int m | none=>D.non)=some (pD (mdI _ _))
  cases mdI _ _<;>rfl)
 show aY (yM [some _,some _,none] O)=_;unfold yM;rw[sq (bh t)];exact congrArg (λr=>aY (lq r)) f
theorem KJ :∀{ms:List M3},(∀m∈ms,lk ps' m.other=lk ps m.other)->ms.filterMap (co ps')=ms.filterMap (co ps)
 | [],_=>rfl
 |m::ms,h=>by
  have e:co ps' m=co ps m:=by
   unfold co;rw[h m zd]
  rw[List.filterMap_cons,List.filterMap_cons,e,KJ λx hx=>h x (zm _ hx)]
def vg   (h:∀m∈ms,lk d m.other=lk ps m.other):lc d ms=lc ps ms:=by
 unfold lc;rw[KJ h]
structure Trl(t:Nat)(fs:List (Str×D))(N:Nat)(nodes:Nat->List Nd)(mv:Nd->List M3)(fin:Nd->Bool):Prop where
 na:∀(O:au) (a:Nat),O[t]?=some (.ins "Leaps" fs)->a<=N->oV [.ob t,.int a] O=.ok (.lst ((nodes a).map dN)) O
 mf:∀(O:au) (a:Nat) (n:Nd),O[t]?=some (.ins "Leaps" fs)->a<=N->n∈nodes a->mU [.ob t,dN n] O=.ok (.lst ((mv n).map d3)) O
 ie:∀(O:au) (a:Nat) (n:Nd),O[t]?=some (.ins "Leaps" fs)->a<=N->n∈nodes a->lC [.ob t,dN n] O=.ok (.bl (fin n)) O
 la:∀O:au,O[t]?=some (.ins "Leaps" fs)->lB [.ob t] O=.ok (.int N) O
 fi:∀O:au,O[t]?=some (.ins "Leaps" fs)->yU [.ob t] O=.ok (dN (0,(46,46))) O
 f0:((0,(46,46)):Nd)∈nodes 0
 nd:∀a,(nodes a).Nodup
 ln:∀a,(nodes a).length<=10
 fw:∀(a:Nat) (n:Nd),a<=N->n∈nodes a->∀m∈mv n,∃b,a<b/\b<=N/\m.other∈nodes b
 sp:∀(a b:Nat) (n:Nd),n∈nodes a->n∈nodes b->a=b
 ml:∀n,(mv n).length<=1000
 fe:∀n,fin n=true->mv n=[]
 u1:(fs.lookup ("nodes_at":Str)).isNone=true
 u2:(fs.lookup ("moves_from":Str)).isNone=true
 u3:(fs.lookup ("is_end":Str)).isNone=true
 u4:(fs.lookup ("last_at":Str)).isNone=true
 u5:(fs.lookup ("first_node":Str)).isNone=true
 hN:N<=1000
def cF(d:Nd->List M3)(ns:List Nd):List (NK×D):=ns.map λn=>(key n,D.lst ((d n).map d3))
theorem KQ(d:Nd->List M3)(n:Nd):∀ns:List Nd,((cF d ns).any λp=>decide (p.1=key n))=decide (n∈ns)
 | []=>rfl
 |x::ns=>by
  have f:=KQ d n ns;unfold cF at *;rw[zg,List.any_cons,f]
  by_cases h:x=n
  ·subst h;simp
  ·have h1:¬key x=key n:=λz=>h (q9.mp z)
   have h2:¬n=x:=λz=>h z.symm
   simp[h1,h2]
def QsV    (h:n∉ns):putN (cF d ns) (key n) (.lst ((d n).map d3))=cF d (ns++[n]):=by
 unfold putN;rw[KQ,zq h];unfold cF;rw[zM];rfl
theorem KR(d:Nd->List M3)(n:Nd):∀ns:List Nd,n∈ns->valN (cF d ns) (key n)=some (.lst ((d n).map d3))
 |x::ns,h=>by
  unfold valN cF;rw[zg,List.find?_cons]
  by_cases hx:x=n
  ·subst hx;simp
  ·have h1:¬key x=key n:=λz=>hx (q9.mp z)
   simp only[h1]
   rcases zk.mp h with rfl | h
   ·exact absurd rfl hx
   ·exact KR d n ns h
def Qsf(d:Nd->List M3)(ns:List Nd):(cF d ns).map Hg=ns.map dN:=by
 unfold cF;rw[zO];rfl
def B_1:MS:=(aq (gC (aa 3) (aa 4) (aQ "Leaps" "moves_from" mU (mG (aa 0)) (aj (aa 4) ao)))
  (gC (mG (aa 2)) (aa 4) (mIf (bK (aQ "Leaps" "is_end" lC (mG (aa 0)) (aj (aa 4) ao))) (kI 0) (mC .non))))
def ini(fin:Nd->Bool)(n:Nd):Option Int:=if fin n=true then some 0 else none
def gZ{O:au}{i:Nat}  (h1:O[i]?=some x)(h2:O[j]?=some y)(h:x≠y):i≠j:=λz=>by
 rw[z,h2] at h1;exact h (zE h1).symm
def rm{O:au}   (e:O[i]?=some x):(O.set i y)[i]?=some y:=by
 obtain⟨h⟩:=zu.mp e;simp[h]
def QtW(T:Trl t fs N Q R fin)  (G:a<=N)  (F:n∈Q a)  (x:n∉pre)   (d:O[t]?=some (.ins "Leaps" fs))(I:O[p]?=some (.dn (tab P)))(E:O[q]?=some (.dn (cF R pre)))(m:p≠q)(J:P.length<1000000)(y:pre.length<1000000)(j f:Option D):
  B_1 [some (.ob t),some (.int a),some (.ob p),some (.ob q),some (dN n),j,f] O=.nx [some (.ob t),some (.int a),some (.ob p),some (.ob q),some (dN n),j,f] ((O.set q (.dn (cF R (pre++[n])))).set p (.dn (tab (put P n (ini fin n))))):=by
 have ht':(O.set q (.dn (cF R (pre++[n]))))[t]?=some (.ins "Leaps" fs):=by rw[zj (gZ E d λz=>nomatch z)];exact d
 have u:(O.set q (.dn (cF R (pre++[n]))))[p]?=some (.dn (tab P)):=by rw[zj (Ne.symm m)];exact I
 have L:∀ρ,mIf (bK (aQ _ _ _ (mG (aa 0)) (aj (aa 4) _))) (mC _) (mC _) ([some (.ob t),some (.int a),some (.ob p),some (.ob q),some _]++ρ) _=.ok (pD (ini fin n)) _:=λρ=>by
  rw[iD,jH,(cU rfl ht' T.u3 (ma1 rfl)).trans (T.ie _ a n ht' G F),aL,mz,mF,oA];unfold ini
  cases fin n<;>rfl
 have C:=Kw (my:=aa 4) (mo:=aa 3) (ρ:=[some (.ob t),some (.int a),some (.ob p),some _,some _,j,f]) ((cU (mo:=mG (aa 0)) rfl d T.u2 (ma1 (a:=aa 4) rfl)).trans (T.mf O a n d G F)) rfl E rfl (by unfold cF;rw[zf];exact y);rw[QsV x] at C;exact .trans (sq C) (Ky (L _) rfl u rfl J)
theorem KY{fs:List (Str×D)}{N:Nat}{nodes:Nat->List Nd}{I:Nd->List M3}{fin:Nd->Bool}{p q:Nat}(T:Trl t fs N nodes I fin){a:Nat}(Q:a<=N)(x:p≠q)(C E:Option D):∀(rest pre:List Nd) (O:au) (d:Tb) (F:Option D),(∀n∈rest,n∈nodes a)->(pre++rest).Nodup->O[t]?=some (.ins "Leaps" fs)->O[p]?=some (.dn (tab d))->O[q]?=some (.dn (cF I pre))->d.length+rest.length<1000000->pre.length+rest.length<1000000 ->
  ∃u f y,bj (mgN 4) B_1 (rest.map dN) [some (.ob t),some (.int a),some (.ob p),some (.ob q),F,C,E] O=.nx [some (.ob t),some (.int a),some (.ob p),some (.ob q),y,C,E] u/\u[p]?=some (.dn (tab f))/\u[q]?=some (.dn (cF I (pre++rest)))/\(∀j,j≠p->j≠q->u[j]?=O[j]?)/\(∀n,lk f n=if n∈rest then some (ini fin n) else lk d n)/\f.length<=d.length+rest.length
 | [],pre,O,d,F,_,_,_,hp,hq,_,_=>⟨O,d,F,rfl,hp,by rw[zG];exact hq,λ_ _ _=>rfl,λn=>by simp,zc _⟩
 |n::rest,pre,O,d,F,hr,hd,ht,hp,hq,hl,hl2=>by
  rw[zw] at hl hl2;have W:=hr n zd
  have J :=λz=>(jg.mp hd).2.2 n z n zd rfl
  have X:=QtW T Q W J ht hp hq x (by omega) (by omega) C
  have R :=gZ ht hq λz=>nomatch z
  have U :=gZ ht hp λz=>nomatch z
  have Y:=QvJ d n (ini fin n);obtain⟨u,f,y,e,h1,h2,h3,h4,Z⟩:=KY T Q x C E _ (pre++[n]) ((O.set q (.dn _)).set p _) (put d n (ini fin n)) _ (λm G=>hr m (zm _ G)) (by rw[zB];exact hd)
   (by rw[zj (Ne.symm U),zj (Ne.symm R)];exact ht) (rm (by rw[zj (Ne.symm x)];exact hp)) (by rw[zj x];exact rm hq) (by omega) (by rw[ze,zR];omega)
  refine⟨u,f,y,?_,h1,by rw[zB] at h2;exact h2,λj P L=>?_,λm=>?_,by rw[zw];omega⟩
  ·show(match B_1 [some _,some _,some _,some _,some _,C,E] O with
    | .nx ρ' u=>bj _ _ _ _ u | .ct ρ' u=>bj _ _ _ _ u | .bk ρ' u=>Fl.nx _ u | r=>r)=_
   rw[X];exact e
  ·rw[h3 j P L,zj (Ne.symm P),zj (Ne.symm L)]
  ·rw[h4,Kv]
   by_cases G:m=n
   ·subst G;simp
   ·simp[G]
def B_r:MS:=(aq (aB 6 (aC qP (aj (eQ (aa 3) (aa 4)) (aj (aa 2) ao))))
  (aJ (cV (az (kh (aa 6))) (cC (az (iw (eQ (mG (aa 2)) (aa 4)))) (az (ak gLt (aa 6) (eQ (mG (aa 2)) (aa 4)))))) (aq (gC (mG (aa 2)) (aa 4) (aa 6))
  (aB 5 (mC (.bl true)))) aM))
def better(v L:Option Int):Bool:=match L with
 |none=>false
 |some c=>match v with
  |none=>true
  |some w=>decide (c<w)
section
variable {t:Nat}{fs:List (Str×D)}{N:Nat}{nodes:Nat->List Nd}{mv:Nd->List M3}{fin:Nd->Bool}{p q:Nat}
def Qzn   (C:n∈ns)    (d:O[p]?=some (.dn (tab cur)))(y:O[q]?=some (.nf (cF mv ns)))(hv:lk cur n=some v)(E:∀m∈mv n,(lk cur m.other).isSome=true)(u:(mv n).length<=1000)(F:cur.length<1000000)(b:Bool)(j a1 x:Option D):
  B_r [j,a1,some (.ob p),some (.ob q),some (dN n),some (.bl b),x] O=.nx [j,a1,some (.ob p),some (.ob q),some (dN n),some (.bl (b || better v (lc cur (mv n)))),some (pD (lc cur (mv n)))] (if better v (lc cur (mv n))=true then O.set p (.dn (tab (put cur n (lc cur (mv n))))) else O):=by
 refine .trans (sq (bh ((bw (maS (Qxy rfl y rfl (KR mv n ns C)) (ma1 rfl))).trans (KH d E u)))) ?_
 cases  lc _ _ with
 |none=>exact .trans (cI rfl) (by simp[better])
 |some c =>
  have P:aq (gC (mG (aa 2)) (aa 4) (aa 6)) (aB 5 (mC (.bl true))) [j,a1,some (.ob p),some (.ob q),some (dN n),some (.bl b),some (pD (some c))] O=_:=sq (Ky rfl rfl d rfl F)
  cases v with
  |none=>exact .trans (eZ (.trans (Az rfl) (QCW (bR (Ba (mX rfl d rfl hv)))))) (P.trans (by simp[better]))
  |some w =>
   by_cases f:c<w
   ·exact .trans (eZ (.trans (Az rfl) (.trans (Kl (bR (Ba (mX rfl d rfl hv)))) (.trans (bR (aP rfl (mX rfl d rfl hv) rfl)) (by simp[f]))))) (P.trans (by simp[better,f]))
   ·exact .trans (cI (.trans (Az rfl) (.trans (Kl (bR (Ba (mX rfl d rfl hv)))) (.trans (bR (aP rfl (mX rfl d rfl hv) rfl)) (by simp[f]))))) (by simp[better,f])
def fnl(fin:Nd->Bool)(L:Nd->Option Int)(n:Nd):Option Int:=if fin n=true then some 0 else L n
def Qqv     (d:fin n=true->L n=none)(hv:v=ini fin n\/v=fnl fin L n):(if better v (L n)=true then L n else v)=fnl fin L n:=by
 unfold fnl ini at *
 cases h:fin n with
 |true =>
  have:=d h
  rw[this];rw[h] at hv
  rcases hv with rfl | rfl<;>rfl
 |false =>
  rw[h] at hv
  rcases hv with rfl | rfl
  ·cases L n<;>rfl
  ·simp only[Bool.false_eq_true,if_false]
   split<;>rfl
def QnK    (d:fin n=true->L n=none):better (fnl fin L n) (L n)=false:=by
 unfold fnl
 cases h:fin n with
 |true =>
  rw[d h];rfl
 |false =>
  cases L n with
  | none
  |some c=>simp[better]
theorem KZ(T:Trl t fs N nodes mv fin){a:Nat}(ha:a<=N){base:Tb}(hb:∀n∈nodes a,∀m∈mv n,(lk base m.other).isSome=true)(st:Nd->Option Int)(U:∀n∈nodes a,st n=ini fin n\/st n=fnl fin (λn=>lc base (mv n)) n)(I a1:Option D):
  ∀(rest:List Nd) (O:au) (d:Tb) (b:Bool) (P G:Option D),(∀n∈rest,n∈nodes a)->rest.Nodup->O[p]?=some (.dn (tab d))->O[q]?=some (.nf (cF mv (nodes a)))->p≠q->(∀m,m∉nodes a->lk d m=lk base m)->(∀n∈rest,lk d n=some (st n))->d.length<1000000 ->
  ∃y f E C,bj (mgN 4) B_r (rest.map dN) [I,a1,some (.ob p),some (.ob q),P,some (.bl b),G] O=.nx [I,a1,some (.ob p),some (.ob q),E,some (.bl (b || rest.any λn=>better (st n) (lc base (mv n)))),C] y/\y[p]?=some (.dn (tab f))/\(∀j,j≠p->y[j]?=O[j]?)/\(∀m,lk f m=if m∈rest then some (fnl fin (λn=>lc base (mv n)) m) else lk d m)/\f.length<=d.length
 | [],O,d,b,P,G,_,_,hp,_,_,_,_,_=>⟨O,d,P,G,by simp[bj],hp,λ_ _=>rfl,λm=>by simp,zc _⟩
 |n::rest,O,d,b,P,G,hr,hd,hp,hq,hpq,hc,hs,hl=>by
  have Q:=hr n zd;have hd':=List.nodup_cons.mp hd
  have W:∀m∈mv n,m.other∉nodes a:=λm x z=>by
   obtain⟨b,b1,b2,b3⟩:=T.fw a n ha Q m x
   have:=T.sp a b _ z b3
   omega
  have eL:lc d (mv n)=lc base (mv n):=vg λm x=>hc _ (W m x)
  have x:∀m∈mv n,(lk d m.other).isSome=true:=λm x=>by rw[hc _ (W m x)];exact hb n Q m x
  have eb:=Qzn Q hp hq (hs n zd) x (T.ml n) hl b I a1 G;rw[eL] at eb;have Y:=Qqv (L:=λn=>lc base (mv n)) (λh=>by show lc base (mv n)=none;rw[T.fe n h];rfl) (U n Q)
  have J:(lk d n).isSome=true:=by rw[hs n zd];rfl
  have go:∀(R:au) (u:Tb),R[p]?=some (.dn (tab u))->(∀j,j≠p->R[j]?=O[j]?)->(∀m,lk u m=if m=n then some (fnl fin (λn=>lc base (mv n)) n) else lk d m)->u.length<=d.length->(if better (st n) (lc base (mv n))=true then O.set p (.dn (tab (put d n (lc base (mv n))))) else O)=R ->
    ∃y f E C,bj (mgN 4) B_r ((n::rest).map dN) [I,a1,some (.ob p),some (.ob q),P,some (.bl b),G] O=.nx [I,a1,some (.ob p),some (.ob q),E,some (.bl (b || (n::rest).any λn=>better (st n) (lc base (mv n)))),C] y/\y[p]?=some (.dn (tab f))/\(∀j,j≠p->y[j]?=O[j]?)/\(∀m,lk f m=if m∈n::rest then some (fnl fin (λn=>lc base (mv n)) m) else lk d m)/\f.length<=d.length:=λR u k1 k2 Z k4 k5=>by
   obtain⟨y,f,E,C,e,g1,g2,g3,g4⟩:=KZ T ha hb st U I a1 rest R u (b || better (st n) (lc base (mv n))) (some (dN n)) (some (pD (lc base (mv n)))) (λm x=>hr m (zm _ x)) hd'.2 k1 ((k2 q (Ne.symm hpq)).trans hq) hpq (λm x=>by
     rw[Z m,if_neg (λz:m=n=>x (by rw[z];exact Q))]
     exact hc m x) (λm x=>by
     rw[Z m,if_neg (λz:m=n=>hd'.1 (by rw[<-z];exact x))]
     exact hs m (zm _ x)) (by omega)
   refine⟨y,f,E,C,?_,g1,λj X=>(g2 j X).trans (k2 j X),λm=>?_,by omega⟩
   ·rw[zg];unfold bj;rw[mg_n];dsimp only
    show(match B_r [I,a1,some (.ob p),some (.ob q),some (dN n),some (.bl b),G] O with
     | .nx ρ' y=>bj _ _ (rest.map dN) ρ' y | .ct ρ' y=>bj _ _ (rest.map dN) ρ' y | .bk ρ' y=>Fl.nx ρ' y | r=>r)=_
    rw[eb,k5];rw[List.any_cons,<-Bool.or_assoc];exact e
   ·rw[g3 m,Z m]
    by_cases F:m=n
    ·subst F;simp[hd'.1]
    ·simp[F]
  cases hbt:better (st n) (lc base (mv n)) with
  |true =>
   rw[hbt] at Y;refine go (O.set p (.dn (tab (put d n (lc base (mv n)))))) (put d n (lc base (mv n))) (rm hp) (λj X=>by rw[zj (Ne.symm X)]) (λm=>?_) (Nat.le_of_eq (Qxc J)) (by rw[hbt];rfl);rw[Kv,<-Y];rfl
  |false =>
   rw[hbt] at Y;refine go O d hp (λ_ _=>rfl) (λm=>?_) (zc _) (by rw[hbt];rfl)
   split
   ·rename_i F;rw[F,<-Y];exact hs n zd
   ·rfl
end
def B_n:MS:=(aq (aB 5 (mC (.bl false)))
  (qp 3 (bW (n8 (aa 3)) (mgN 4) B_r)))
def K1(T:Trl t fs N nodes mv fin)  (ha:a<=N)  (hb:∀n∈nodes a,∀m∈mv n,(lk base m.other).isSome=true)(st:Nd->Option Int)(L:∀n∈nodes a,st n=ini fin n\/st n=fnl fin (λn=>lc base (mv n)) n)(y a1 F Y E:Option D)
  (hp:O[p]?=some (.dn (tab cur))) (J:O[q]?=some (.dn (cF mv (nodes a)))) (x:p≠q) (U:∀m,m∉nodes a->lk cur m=lk base m) (hs:∀n∈nodes a,lk cur n=some (st n)) (hl:cur.length<1000000):
  ∃C d u f,B_n [y,a1,some (.ob p),some (.ob q),F,Y,E] O=.nx [y,a1,some (.ob p),some (.ob q),u,some (.bl ((nodes a).any λn=>better (st n) (lc base (mv n)))),f] C/\C[p]?=some (.dn (tab d))/\C[q]?=some (.dn (cF mv (nodes a)))/\(∀j,j≠p->j≠q->C[j]?=O[j]?)/\(∀m,m∉nodes a->lk d m=lk base m)/\(∀n∈nodes a,lk d n=some (fnl fin (λn=>lc base (mv n)) n))/\d.length<=cur.length:=by
 have I:(O.set q _)[q]?=some (.nf (cF mv (nodes a))):=rm J
 have P:(O.set q (.nf (cF mv (nodes a))))[p]?=some (.dn (tab cur)):=by rw[zj (Ne.symm x)];exact hp
 obtain⟨C,d,u,f,e,g1,X,W,g4⟩:=KZ T ha hb st L y a1 _ _ _ _ F E (λn h=>h) (T.nd a) P I x U hs hl;rw[Bool.false_or] at e;have G :=(X q (Ne.symm x)).trans I;refine⟨C.set q _,d,u,f,?_,?_,rm G,λj Z Q=>?_,λm R=>?_,λn hn=>?_,g4⟩
 ·have ek:n8 (aa 3) [y,a1,some (.ob p),some (.ob q),F,some (.bl false),E] O=.ok ((nodes a).map dN) (O.set q (.nf (cF mv (nodes a)))):=by
   unfold n8;rw[show aa 3 _ O=.ok _ O from rfl]
   dsimp
   rw[J]
   dsimp
   rw[Qsf]
  have ef:bW (n8 (aa 3)) (mgN 4) B_r [y,a1,some (.ob p),some (.ob q),F,some (.bl false),E] O=.nx [y,a1,some (.ob p),some (.ob q),u,some (.bl ((nodes a).any λn=>better (st n) (lc base (mv n)))),f] C:=by
   rw[qD,ek,qF,e]
  show qp 3 _ [y,a1,some _,some (.ob q),F,some _,E] O=_;show(match O[q]? with | some (.dn _)=>_ | _=>Fl.no)=_;rw[J];rw[ef]
  dsimp
  rw[G]
 ·rw[zj (Ne.symm x)];exact g1
 ·rw[zj (Ne.symm Q),X j Z,zj (Ne.symm Q)]
 ·rw[W,if_neg R];exact U m R
 ·rw[W,if_pos hn]
def vh      (h:t ρ O=.ok true O)(hb:b ρ O=.nx ρ2 d):dD t b (k+1) ρ O=dD t b k ρ2 d:=by
 show(match t ρ O with | .ok true O1=>(match b ρ O1 with | .nx _ d=>dD t b k _ d | .ct _ d=>dD t b k _ d | .bk _ d=>Fl.nx _ d | r=>r) | .ok false O1=>.nx ρ O1 | .ex x O'=>.ex x O' | .no=>.no)=_;rw[h]
 dsimp
 rw[hb]
def Be      (h:t ρ O=.ok false O):dD t b (k+1) ρ O=.nx ρ O:=by
 show(match t ρ O with | .ok true O1=>(match b ρ O1 with | .nx _ O2=>dD t b k _ O2 | .ct _ O2=>dD t b k _ O2 | .bk _ O2=>Fl.nx _ O2 | r=>r) | .ok false O1=>.nx ρ O1 | .ex x O'=>.ex x O' | .no=>.no)=_;rw[h]
def Qwt(T:Trl t fs N nodes mv fin)  (J:a<=N)   (Z:O[t]?=some (.ins "Leaps" fs))(hp:O[p]?=some (.dn (tab cur)))(hb:∀n∈nodes a,∀m∈mv n,(lk cur m.other).isSome=true)(hl:cur.length<900000):
  ∃C d,qR [.ob t,.int a,.ob p] O=.ok .non C/\C[p]?=some (.dn (tab d))/\(∀(j:Nat) (x:Ob),j≠p->O[j]?=some x->C[j]?=some x)/\(∀m,m∉nodes a->lk d m=lk cur m)/\(∀n∈nodes a,lk d n=some (fnl fin (λn=>lc cur (mv n)) n))/\d.length<=cur.length+10:=by
 have hln:=T.ln a;have F:=(zu.mp hp).1;have U:=(zu.mp Z).1;have y :=zp F
 have u:(O++[Ob.dn []])[t]?=some (.ins "Leaps" fs):=by rw[zF U];exact Z
 have X:(O++[Ob.dn []])[p]?=some (.dn (tab cur)):=by rw[zF F];exact hp
 have W:(O++[Ob.dn []])[O.length]?=some (.dn (cF mv [])):=by simp[cF]
 obtain⟨O1,cur1,Y,e1,f1,f2,f3,f4,f5⟩:=KY T J y none none _ [] _ cur none (λn h=>h) (T.nd a) u X W (by omega) (by simp;omega)
 have hf:∀n,fin n=true->lc cur (mv n)=none:=λn h=>by rw[T.fe n h];rfl
 obtain⟨O2,I,R,Q,L,g1,g2,g3,g4,g5,g6⟩:=K1 T J hb _ (λn _=>.inl rfl) _ _ Y _ none f1 f2 y (λm hm=>by rw[f4 m,if_neg hm]) (λn hn=>by rw[f4 n,if_pos hn]) (by omega);obtain⟨O3,G,o4'',o6'',e3,k1,k2,k3,k4,k5,k6⟩:=K1 T J hb _ (λn _=>.inr rfl) _ _ R _ Q g1 g2 y g4 g5 (by omega)
 have z3:((nodes a).any λn=>better (fnl fin (λn=>lc cur (mv n)) n) (lc cur (mv n)))=false:=by
  rw[List.any_eq_false];intro n _;rw[QnK (hf n)];exact zA
 rw[z3] at e3
 have E:∀(j:Nat) (x:Ob),j≠p->O[j]?=some x->O1[j]?=some x:=λj x f hx=>by
  have:=(zu.mp hx).1
  rw[f3 j f (by omega),zF this];exact hx
 have P:∀(j:Nat) (x:Ob),O[j]?=some x->j≠O.length:=λj x hx=>zp (zu.mp hx).1
 have fin':∀{C x4 x6},dD _ B_n 10 [some (.ob t),some _,some (.ob p),some _,Y,some _,none] O1=.nx [some (.ob t),some (.int a),some (.ob p),some (.ob O.length),x4,some (.bl false),x6] C->qR [.ob t,.int a,.ob p] O=.ok .non C:=λhw=>congrArg aY (Eq.trans (a:=JZ [some (.ob t),some (.int a),some (.ob p),none,none,none,none] O) (sq (Bb rfl)) (.trans (sq (fQ (dj ((cU rfl u T.u1 (ma1 rfl)).trans (T.na _ a u J))) e1)) (.trans (sq (bh m_c)) hw)))
 cases hb1:(nodes a).any _ with
 |true =>
  rw[hb1] at L;exact⟨O3,G,fin' (by rw[vh rfl L,vh rfl e3,Be rfl]),k1,λj x f hx=>by rw[k3 j f (P j x hx),g3 j f (P j x hx)];exact E j x f hx,k4,k5,by omega⟩
 |false =>
  rw[hb1] at L;exact⟨O2,I,fin' (by rw[vh rfl L,Be rfl]),g1,λj x f hx=>by rw[g3 j f (P j x hx)];exact E j x f hx,g4,g5,by omega⟩
theorem vm{α:Type}{g:MG}{t:L2.M Bool}{m:L2.M D}(d:aK->Prop)(p:α->Bool)(f:α->D):∀(xs:List α) (ρ:aK) (O:au) (acc:List D),d ρ->(∀x∈xs,∀ρ,d ρ->∃ρ1,g (f x) ρ=some ρ1/\d ρ1/\t ρ1 O=.ok (p x) O/\m ρ1 O=.ok (f x) O)->b7 g t m (xs.map f) ρ O acc=.ok (acc++(xs.filter p).map f) O
 | [],ρ,O,acc,_,_=>by simp
 |x::xs,ρ,O,acc,h,hs=>by
  obtain⟨ρ1,E,h1,C,y⟩:=hs x zd ρ h
  have u:=λacc=>vm d p f xs _ O acc h1 λF j=>hs F (zm _ j)
  rw[zg];unfold b7;rw[E]
  dsimp
  rw[C]
  cases q:p x with
  |true =>
   dsimp
   rw[y]
   dsimp
   rw[u,List.filter_cons,q];simp
  |false =>
   dsimp
   rw[u,List.filter_cons,q];simp
def Qs1(b:Nat):jD (((b+1:Nat):Int) - 1) (b+1)=.int (b:Int)::jD ((b:Int) - 1) b:=by
 unfold jD;rw[List.range_succ_eq_map,zg,zO];congr 1
 ·congr 1;omega
 ·refine zY λi _=>?_
  show D.int _=D.int _;congr 1;omega
def Pri(N:Nat)(nodes:Nat->List Nd)(f:Nd->List M3)(fin:Nd->Bool)(b:Nat)(d:Tb):Prop:=∀c,b<=c->c<=N->∀n∈nodes c,lk d n=some (fnl fin (λn=>lc d (f n)) n)
def B_p:MS:=(dJ (aC qR (aj (aa 0) (aj (aa 2) (aj (aa 1) ao)))))
theorem K3(T:Trl t fs N nodes mv fin):∀(b:Nat) (O:au) (f:Tb) (G:Option D),b<=N+1->O[t]?=some (.ins "Leaps" fs)->O[p]?=some (.dn (tab f))->Pri N nodes mv fin b f->f.length+10 * b<=800000 ->
  ∃y u C,bj (mgN 2) B_p (jD ((b:Int) - 1) b) [some (.ob t),some (.ob p),G] O=.nx [some (.ob t),some (.ob p),C] y/\y[p]?=some (.dn (tab u))/\(∀(j:Nat) (x:Ob),j≠p->O[j]?=some x->y[j]?=some x)/\Pri N nodes mv fin 0 u
 | 0,O,f,G,_,_,hp,hP,_=>⟨O,f,G,rfl,hp,λ_ _ _ h=>h,hP⟩
 |a+1,O,f,G,hb,ht,hp,hP,hl=>by
  have W:a<=N:=by omega
  have L:∀n∈nodes a,∀m∈mv n,(lk _ _).isSome=true:=λn E m J=>by
   obtain⟨c,c1,I,c3⟩:=T.fw a n W E m J;rw[hP c (by omega) I _ c3];rfl
  obtain⟨Z,F,e,g1,Y,X,g4,g5⟩:=Qwt T W ht hp L (by omega)
  have tp :=gZ ht hp λz=>nomatch z
  have P:Pri N _ mv _ a _:=λc c1 I n E=>by
   have Q :=λm J=>X _ λz=>by
    obtain⟨d,d1,d2,d3⟩:=T.fw c n I E m J
    have:=T.sp a d _ z d3
    omega
   have eL :=vg Q
   have eF:fnl fin (λn=>lc F (mv n)) n=fnl fin (λn=>lc f (mv n)) n:=by
    show(if fin n=true then some 0 else lc _ _)=_;rw[eL];rfl
   rw[eF]
   by_cases U:c=a
   ·subst U;exact g4 n E
   ·rw[X n λz=>U (T.sp c a n E z)];exact hP c (by omega) I n E
  obtain⟨y,u,C,e2,k1,k2,k3⟩:=K3 T a Z _ _ (by omega) (Y t _ tp ht) g1 P (by omega);refine⟨y,u,C,?_,k1,λj x R hx=>k2 j x R (Y j x R hx),k3⟩;rw[Qs1]
  have eb:B_p [some (.ob t),some (.ob p),some (.int a)] O=.nx [some (.ob t),some (.ob p),some (.int a)] Z:=by
   unfold B_p;rw[qx,bw (maS rfl (maS rfl (ma1 rfl))),e,uv]
  show(match B_p [some _,some _,some _] O with
   | .nx ρ' y=>bj _ _ _ _ y | .ct ρ' y=>bj _ _ _ _ y | .bk ρ' y=>Fl.nx _ y | r=>r)=_
  rw[eb];exact e2
def Qtb(T:Trl t fs N P Q fin)  (y:O[t]?=some (.ins "Leaps" fs)):∃m d,yR [.ob t] O=.ok (.ob O.length) m/\m[O.length]?=some (.dn (tab d))/\(∀(j:Nat) (x:Ob),O[j]?=some x->m[j]?=some x)/\Pri N P Q fin 0 d:=by
 have hN:=T.hN;have u:=(zu.mp y).1
 have f:(O++[Ob.dn []])[t]?=some (.ins "Leaps" fs):=by rw[zF u];exact y
 obtain⟨m,d,J,e,F,E,C⟩:=K3 (p:=O.length) T _ _ [] _ (zc _) f (by simp[tab]) (λc I L=>absurd I (by omega)) (by simp;omega);refine⟨m,d,?_,F,λj x hx=>?_,C⟩
 ·have G:tR (aj (aQ "Leaps" "last_at" lB (mG (aa 0)) ao) (aj (mUn nP (kI 1)) (aj (mUn nP (kI 1)) ao))) [some (.ob t),some (.ob O.length),none] (O++[Ob.dn []])=.ok (jD ((N+1:) - 1) (N+1)) (O++[Ob.dn []]):=by
   unfold tR;rw[maS ((cU rfl f T.u4 rfl).trans (T.la _ f)) (maS rfl (ma1 rfl))];dsimp only[aL];rw[if_pos ⟨rfl,by omega⟩];rw[show((N:Int) - -1).toNat=N+1 by omega,show((N+1:) - 1)=(N:Int) by omega]
  unfold B_p at e;show aY (aq _ _ [some _,some _,none] _)=_;rw[eV,qD,G,qF,e];rfl
 ·have:=(zu.mp hx).1
  exact E j x (by omega) (by rw[zF this];exact hx)
theorem Bf:∀(l:List Int) (b:Option Int) (c:Int),mdI b l=some c->b=some c\/c∈l
 | [],b,c,h=>.inl (by cases b<;>exact h)
 |n::r,none,c,h=>by
  rcases Bf r _ c h with h | h
  ·exact .inr (by rw[zE h];exact zd)
  ·exact .inr (zm _ h)
 |n::r,some m,c,h=>by
  rcases Bf r _ c h with h | h
  ·split at h
   ·exact .inr (by rw[zE h];exact zd)
   ·exact .inl h
  ·exact .inr (zm _ h)
theorem K4:∀(l:List Int) (b:Int),∃c,mdI (some b) l=some c
 | [],b=>⟨b,rfl⟩
 |n::r,b=>K4 r _
def Qx3  (h:l≠[]):∃c,mdI none l=some c:=by
 cases l with
 |nil=>exact absurd rfl h
 |cons n r=>exact K4 r n
def Qy1(x y:Option Int):gEq (pD x) (pD y)=some (.bl (decide (x=y))):=by
 cases x with
 |none=>cases y<;>rfl
 |some i =>
  cases y with
  |none=>rfl
  |some j =>
   show some _=_;congr 2;exact decide_eq_decide.mpr ⟨λh=>by rw[h],λh=>zE h⟩
theorem K5{α:Type}(f:α->Bool)(g:α->D)(h:α->Bool):∀(ms:List α) (m:α),ms.find? f=some m->((ms.filter f).map g)[0]?=some (g m)
 |x::ms,m,e=>by
  rw[List.find?_cons] at e
  cases hx:f x with
  |true =>
   rw[hx] at e;cases e;simp[hx]
  |false =>
   rw[hx] at e;rw[List.filter_cons,hx];exact K5 f g h ms m e
def QwT     (y:O[p]?=some (.dn (tab ps)))(C:∀m∈ms,(lk ps m.other).isSome=true)(I:ms.length<=1000)(f:lc ps ms=some c):
  ∃m,ms.find? (λm=>decide (co ps m=lc ps ms))=some m/\m∈ms/\co ps m=some c/\uP [.lst (ms.map d3),.ob p] O=.ok (d3 m) O:=by
 obtain⟨x,hx,j⟩:∃x∈ms,co ps x=some c:=by
  rcases Bf _ _ _ f with h | h
  ·cases h
  ·exact List.mem_filterMap.mp h
 obtain⟨m,d⟩:∃m,ms.find? (λm=>decide (co ps m=lc ps ms))=some m:=by
  cases e:ms.find? _ with
  |some m=>exact⟨m,rfl⟩
  |none =>
   have:=List.find?_eq_none.mp e x hx
   rw[j,f] at this;simp at this
 have t:=List.mem_of_find?_eq_some d
 have u:co ps m=some c:=by
  have:=List.find?_some d
  rw[<-f];exact zP this
 refine⟨m,d,t,u,?_⟩;have G:aC _ (aj (aa 0) (aj (aa 1) _)) [some _,some _,none] O=.ok _ O:=(bw (maS rfl (ma1 rfl))).trans (KH y C I)
 have J:b7 (mgN 0) (az (ak gEq (aC oU (aj (aa 0) (aj (aa 1) ao))) (aa 2))) (aa 0) (ms.map d3) [none,some (.ob p),some (pD (lc ps ms))] O []=.ok ((ms.filter λm=>decide (co ps m=lc ps ms)).map d3) O:=by
  rw[vm (λρ=>∃a,ρ=[a,some _,some _]) _ d3 ms _ _ _ ⟨none,rfl⟩ (by
   rintro m' hm' ρ ⟨a,rfl⟩
   exact⟨_,rfl,⟨_,rfl⟩,bR (aP ((bw (maS rfl (ma1 rfl))).trans (Kz y (C m' hm'))) rfl (by
    rw[show aV O _=pD (co ps m') by cases co ps m'<;>rfl,show aV O _=pD (lc ps ms) by cases lc ps ms<;>rfl,Qy1])),rfl⟩)]
  rw[zU]
 have F:bO (bz (aa 0)) 1 [1,2] _ _ _ [some _,some _,some _] O=.ok _ O:=jT (dj rfl) (by rw[zf];omega) rfl J
 have E:ak gIx _ (kI 0) _ O=.ok _ O:=aP F m_c (by
  exact gR.trans (K5 _ d3 (λ_=>true) ms m d))
 show aY (yS [some _,some _,none] O)=_;unfold yS;rw[sq (bh G)];exact congrArg (λr=>aY (lq r)) E
def Wy(ps:Tb)(d:Nd->List M3)(fin:Nd->Bool):Nd->List M3->Prop
 |n,[]=>fin n=true
 |n,m::ms=>fin n=false/\m∈d n/\(d n).find? (λm=>decide (co ps m=lc ps (d n)))=some m/\Wy ps d fin m.other ms
def B_y:MS:=(aq (aB 5 (aC uP (aj (aQ "Leaps" "moves_from" mU (mG (aa 0)) (aj (aa 2) ao)) (aj (aa 1) ao))))
  (aq (eG 4 (ak gIx (aa 5) (kI 1)))
  (aB 2 (ak gIx (aa 5) (kI 2)))))
def QyZ{fs:List (Str×D)}{N:Nat}{nodes:Nat->List Nd}{F:Nd->List M3}{fin:Nd->Bool}{p:Nat}(T:Trl t fs N nodes F fin){ps:Tb}(R:Pri N nodes F fin 0 ps){O:au}(G:O[t]?=some (.ins "Leaps" fs))(Y:O[p]?=some (.dn (tab ps)))(x:Option D):∀(k a:Nat) (n:Nd) (c:Int) (nm:List D) (f:Nat) (u:Option D),a+k=N->n∈nodes a->lk ps n=some (some c)->k<f->nm.length+k<1000000 ->
  ∃ms I d,dD (dB (bK (aQ "Leaps" "is_end" lC (mG (aa 0)) (aj (aa 2) ao)))) B_y f [some (.ob t),some (.ob p),some (dN n),x,some (.lst nm),u] O=.nx [some (.ob t),some (.ob p),some (dN I),x,some (.lst (nm++ms.map λm=>.str m.name)),d] O/\Wy ps F fin n ms/\ms.length<=k:=by
 intro k
 induction k using Nat.strongRecOn with
 | _ k ih =>
  intro a n c nm f u hak y Z hf hl;obtain⟨L,rfl⟩:∃L,f=L+1:=⟨f - 1,by omega⟩
  have te:dB (bK (aQ "Leaps" "is_end" lC (mG (aa 0)) (aj (aa 2) ao))) [some (.ob t),some (.ob p),some (dN n),x,some (.lst nm),u] O=.ok (!fin n) O:=by
   rw[mH,jH,(cU rfl G T.u3 (ma1 rfl)).trans (T.ie O a n G (by omega) y),aL,mz,mF,oA,aL]
  cases hfin:fin n with
  |true =>
   rw[hfin] at te;exact⟨[],n,u,by rw[Be te];simp,hfin,Nat.zero_le _⟩
  |false =>
   rw[hfin] at te
   have hL :=by
    have:=R a (Nat.zero_le _) (by omega) n y
    rw[Z] at this;have h2 :=zE this;unfold fnl at h2;rw[hfin] at h2;exact h2.symm
   have J:∀m∈F n,(lk ps m.other).isSome=true:=λm J=>by
    obtain⟨b,b1,U,P⟩:=T.fw a n (by omega) y m J;rw[R b (Nat.zero_le _) U _ P];rfl
   obtain⟨m,e1,E,j,e2⟩:=QwT Y J (T.ml n) hL;obtain⟨b,b1,U,P⟩:=T.fw a n (by omega) y m E
   obtain⟨C,Q⟩:∃C,lk ps m.other=some (some C):=by
    unfold co at j;split at j
    ·rename_i C e;exact⟨C,e⟩
    ·cases j
   have X:aC _ (aj (aQ "Leaps" _ _ (mG (aa 0)) (aj (aa 2) ao)) (aj (aa 1) ao)) [some (.ob t),some (.ob p),some (dN n),x,some (.lst nm),u] O=.ok (d3 m) O:=(bw (maS ((cU rfl G T.u2 (ma1 rfl)).trans (T.mf O a n G (by omega) y)) (ma1 rfl))).trans e2
   have eb:B_y [some (.ob t),some (.ob p),some (dN n),x,some (.lst nm),u] O=.nx [some (.ob t),some (.ob p),some (dN m.other),x,some (.lst (nm++[.str m.name])),some (d3 m)] O:=by
    unfold B_y;rw[sq (bh X)];rw[sq (u6 (aP rfl rfl rfl) rfl (by omega))];rfl
   obtain⟨ms,I,d,e3,W,l3⟩:=ih (N - b) (by omega) b m.other C (nm++[.str m.name]) L _ (by omega) P Q (by omega) (by rw[ze,zR];omega);refine⟨m::ms,I,d,?_,⟨hfin,E,e1,W⟩,by rw[zw];omega⟩;rw[vh te eb,e3,zB];rfl
def Qs4{fs:List (Str×D)}{N:Nat}{nodes:Nat->List Nd}{d:Nd->List M3}{fin:Nd->Bool}(T:Trl t fs N nodes d fin)(j:∀(a:Nat) (n:Nd),a<=N->n∈nodes a->fin n=false->d n≠[]){ps:Tb}(E:Pri N nodes d fin 0 ps):∀(k a:Nat) (n:Nd),a+k=N->n∈nodes a->∃c,lk ps n=some (some c):=by
 intro k
 induction k using Nat.strongRecOn with
 | _ k ih =>
  intro a n I f;have h1:=E a (Nat.zero_le _) (by omega) n f
  cases hfin:fin n with
  |true =>
   refine⟨0,?_⟩;rw[h1];unfold fnl;rw[hfin,if_pos rfl]
  |false =>
   have h2:lk ps n=some (lc ps (d n)):=by
    rw[h1];unfold fnl;rw[hfin,if_neg zA]
   obtain⟨m,y⟩:=List.exists_mem_of_ne_nil _ (j a n (by omega) f hfin);obtain⟨b,L,J,G⟩:=T.fw a n (by omega) f m y;obtain⟨c,C⟩:=ih (N - b) (by omega) b _ (by omega) G
   have u:co ps m=some (m.cost+c):=by
    unfold co;rw[C]
   obtain⟨F,x⟩:=Qx3 (l:=(d n).filterMap _) λz=>by
    have:=List.mem_filterMap.mpr ⟨m,y,u⟩
    rw[z] at this;cases this
   exact⟨F,by rw[h2];exact congrArg _ x⟩
def QA5(T:Trl t fs N Y Z fin)(y:∀(a:Nat) (n:Nd),a<=N->n∈Y a->fin n=false->Z n≠[])(X:N<300)  (C:O[t]?=some (.ins "Leaps" fs)):
  ∃d ps c ms,yW [.ob t] O=.ok (.tup [.int c,.lst (ms.map λm=>.str m.name)]) d/\(∀(j:Nat) (x:Ob),O[j]?=some x->d[j]?=some x)/\Pri N Y Z fin 0 ps/\lk ps (0,(46,46))=some (some c)/\Wy ps Z fin (0,(46,46)) ms:=by
 obtain⟨d,ps,Q,F,E,u⟩:=Qtb T C;obtain⟨c,f⟩:=Qs4 T y u N 0 _ (jo _) T.f0;have ht':=E t _ C;obtain⟨ms,U,R,G,I,W⟩:=QyZ T u ht' F _ N 0 _ c [] _ _ (jo _) T.f0 f (by omega) (by simp;omega);refine⟨d,ps,c,ms,?_,E,u,f,I⟩;have P:aC _ (aj (aa 0) _) [some _,none,none,none,none,none] O=.ok _ d:=(bw (ma1 rfl)).trans Q;have L:aQ _ _ _ (mG (aa 0)) ao [some (.ob t),some (.ob O.length),none,none,none,none] d=.ok _ d:=(cU rfl ht' T.u5 rfl).trans (T.fi d ht');have J:eQ (aa 1) (aa 2) [some (.ob t),some _,some _,none,none,none] d=.ok _ d:=mX rfl F rfl f
 unfold B_y at G;show aY (yV [some _,none,none,none,none,none] O)=_;unfold yV;rw[sq (Bb P)];show aY (aq _ _ [some _,some _,none,none,none,none] d)=_;rw[sq (bh L)];show aY (aq _ _ [some _,some _,some _,none,none,none] d)=_;rw[sq (bh J)];show aY (aq _ _ [some _,some _,some _,some _,some _,none] d)=_;unfold kj;rw[sq G];rfl
def rE     (h:m ρ O=.ok (.str t) O)(hz:t.length<=1000000):aU bc (aj m ao) ρ O=.ok (.int (t.length:Int)) O:=gW (ma1 h) (by
 show bc [D.str t]=_
 rw[HQ,if_pos hz])
def gH     (f:a ρ O=.ok (.str x) O)(hb:b ρ O=.ok (.str y) O)(d:x.length+y.length<=1000000):ak aH a b ρ O=.ok (.str (x++y)) O:=aP f hb (by rw[mD,mD,Qz1,if_pos d])
def mi(p:Nat×Nat)(c:Nat):List Nat:=if p.1=c then[] else[91,c,93]
noncomputable def mg'(p:Nat×Nat)(c:Nat):List Nat:=if p.2=c then[] else[91,47,c,93]
def mbS(p q:Nat×Nat):List Nat:=mi p q.1++mg' p q.2
def mbA(q:Nat×Nat):List Nat:=[91,93]++mi (46,46) q.1++mg' (46,46) q.2
def mb(p q:Nat×Nat):List Nat:=if(mbA q).length<(mbS p q).length then mbA q else mbS p q
def vo(p:Nat×Nat)(c:Nat):(mi p c).length<=3:=by unfold mi;split<;>simp
def vp(p:Nat×Nat)(c:Nat):(mg' p c).length<=4:=by unfold mg';split<;>simp
def QvV(p q:Nat×Nat):(mbS p q).length<=7:=by
 unfold mbS;rw[ze]
 have:=vo p q.1
 have:=vp p q.2
 omega
def K6(q:Nat×Nat):(mbA q).length<=9:=by
 unfold mbA;rw[ze,ze]
 have:=vo (46,46) q.1
 have:=vp (46,46) q.2
 show 2+_+_<=9;omega
def K7(p q:Nat×Nat):(mb p q).length<=9:=by
 unfold mb
 have:=K6 q
 split<;>omega
def K8(p:Nat×Nat)(c:Nat)(O:au):mR [pr p,.str [105,110,107],st c] O=.ok (.str (mi p c)) O:=by
 have d:aB 3 (mIf (az (ak gEq (aa 1) (kS [105,110,107]))) (mC _) (kI 1)) [some (pr p),some (.str [105,110,107]),some (st c),none] O=.nx [some _,some _,some _,some (.int 0)] O:=rfl;have t1:az (ak _ (ak gIx (aa 0) (aa 3)) (aa 2)) [some (pr p),some (.str [105,110,107]),some (st c),some (.int 0)] O=.ok _ O:=bR (aP rfl rfl (vf _ _));show aY (qQ [some _,some _,some _,none] O)=_;unfold qQ mi;rw[sq d,dO,iD,t1]
 by_cases h:p.1=c
 ·rw[zv h,if_pos h];rfl
 ·rw[zq h,if_neg h];rfl
def K9(p:Nat×Nat)(c:Nat)(O:au):mR [pr p,.str [103,114,111,117,110,100],st c] O=.ok (.str (mg' p c)) O:=by
 have d:aB 3 (mIf (az (ak gEq (aa 1) (kS [105,110,107]))) (kI 0) (kI 1)) [some _,some (.str [103,114,111,117,110,100]),some (st c),none] O=.nx [some (pr p),some _,some _,some _] O:=rfl;have t1:az (ak _ (ak gIx (aa 0) (aa 3)) (aa 2)) [some (pr p),some (.str [103,114,111,117,110,100]),some (st c),some (.int 1)] O=.ok _ O:=bR (aP rfl rfl (vf _ _));show aY (qQ [some _,some _,some _,none] O)=_;unfold qQ mg';rw[sq d,dO,iD,t1]
 by_cases h:p.2=c
 ·rw[zv h,if_pos h];rfl
 ·rw[zq h,if_neg h];rfl
def QqX(p q:Nat×Nat)(O:au):uO [pr p,pr q] O=.ok (.str (mb p q)) O:=by
 have m:=QvV p q;have t:=K6 q;have l1:=vo p q.1;have j:=vp p q.2;have l3:=vo (46,46) q.1;have l4:=vp (46,46) q.2;have f:ak aH (aC _ (aj (aa 0) (aj (mC _) (aj (ak gIx (aa 1) (kI 0)) ao)))) (aC _ (aj (aa 0) (aj (mC _) (aj (ak gIx (aa 1) (kI 1)) ao)))) [some _,some (pr q),none,none] O=.ok (.str (mbS p q)) O :=
  gH ((bw (maS rfl (maS rfl (ma1 (aP rfl rfl rfl))))).trans (K8 p q.1 O)) ((bw (maS rfl (maS rfl (ma1 (aP rfl rfl rfl))))).trans (K9 p q.2 O)) (by omega)
 have d:ak aH (ak aH (aC _ (aj (kS [112,108,97,105,110]) (aj (mC _) ao))) (aC _ (aj (mC (.tup [.str [46],.str [46]])) (aj (mC _) (aj (ak gIx (aa 1) (kI 0)) ao))))) (aC _ (aj (mC (.tup [.str [46],.str [46]])) (aj (mC _) (aj (ak gIx (aa 1) (kI 1)) ao)))) [some (pr p),some (pr q),some (.str (mbS p q)),none] O=.ok _ O :=
  gH (gH ((bw (maS rfl (ma1 rfl))).trans (QvY O)) ((bw (maS rfl (maS rfl (ma1 (aP rfl rfl rfl))))).trans (K8 (46,46) q.1 O)) (by show 2+_<=_;omega)) ((bw (maS rfl (maS rfl (ma1 (aP rfl rfl rfl))))).trans (K9 (46,46) q.2 O)) (by rw[ze];show 2+_+_<=_;omega)
 have t1:az (ak gLt (aU bc (aj (aa 3) ao)) (aU bc (aj (aa 2) ao))) [some (pr p),some (pr q),some (.str (mbS p q)),some (.str (mbA q))] O=.ok _ O:=u9 (rE rfl (by omega)) (rE rfl (by omega));show aY (yO [some _,some (pr q),none,none] O)=_;unfold yO mb;rw[sq (bh f)];show aY (aq _ _ [some (pr p),some (pr q),some _,none] O)=_;rw[sq (bh d)];show aY (aA _ [some (pr p),some (pr q),some _,some (.str (mbA q))] O)=_;rw[dO,iD,t1]
 by_cases h:(mbA q).length<(mbS p q).length
 ·rw[zv (by omega),if_pos h];rfl
 ·rw[zq (by omega),if_neg h];rfl
def lfs(l:List L3)(d:List Nat):List (Str×D):=[("look",.lst (l.map dK)),("inks",.lst (d.map st))]
def nds(l:List L3)(d:List Nat)(a:Nat):List Nd:=if a=0\/a=l.length+1 then[((a:Int),(46,46))] else match l[a - 1]? with
 |some x=>if x.1=32 then d.map λc=>((a:Int),(c,x.2.2)) else[((a:Int),(x.2.1,x.2.2))]
 |none=>[]
def sg(l:List L3)(a:Nat):List Nat:=match l[a]? with
 |some x=>sgn x.1
 |none=>[]
def lmv(l:List L3)(d:List Nat)(n:Nd):List M3:=if n.1=(l.length:Int)+1 then[] else(nds l d (n.1.toNat+1)).map λb=>⟨((mb n.2 b.2).length:Int),mb n.2 b.2++sg l n.1.toNat,b⟩
def oY(l:List L3)(n:Nd):Bool:=decide (n.1=(l.length:Int)+1)
def lE     (h:n∈nds l d a):n.1=(a:Int):=by
 unfold nds at h;split at h
 ·rw[zh.mp h]
 ·split at h
  ·split at h
   ·obtain⟨c,_,rfl⟩:=zz.mp h;rfl
   ·rw[zh.mp h]
  ·cases h
def QwS(c:Nat):(sgn c).length<=2:=by unfold sgn;split<;>simp
def La(l:List L3)(a:Nat):(sg l a).length<=2:=by
 unfold sg
 split
 ·exact QwS _
 ·exact Nat.zero_le _
def rF(f:O[t]?=some (.ins "Leaps" (lfs l j))):lB [.ob t] O=.ok (.int ((l.length:Int)+1)) O:=by
 have h:bf ["Leaps"] "look" (aa 0) [some _] O=.ok _ O:=dW rfl f zd rfl;have d:=lD h;rw[zf] at d;show aY (yN [some _] O)=_;unfold yN;rw[dO,mV d rfl];rfl
def Lb{l:List L3}{k:Nat}  (h:l[k]?=some x):gIx (.lst (l.map dK)) (.int (k:Int))=some (dK x):=by
 rw[lu,gR,zC,h];rfl
def sqr     (h:a ρ O=.rt d f):aq a b ρ O=.rt d f:=by rw[eV,h];rfl
def Ld{O:au}{t:Nat}(d:O[t]?=some (.ins "Leaps" (lfs l C)))(u:C.length<=100)  (y:a<=l.length+1):oV [.ob t,.int (a:Int)] O=.ok (.lst ((nds l C a).map dN)) O:=by
 unfold nds
 by_cases h:a=0\/a=l.length+1
 ·rw[if_pos h];exact congrArg aY (Eq.trans (sqr (.trans (eZ (.trans (orb (jR rfl rfl) (jR rfl ((cU rfl d rfl rfl).trans (rF d)))) (by simp;omega))) rfl)) rfl)
 ·rw[if_neg h]
  have f:a - 1<l.length:=by omega
  have hx :=zt f
  generalize l[a - 1]=x at hx
  rw[hx]
  suffices g:JT _ O=.rt (.lst ((if x.1=32 then C.map _ else[((a:Int),(x.2.1,x.2.2))]).map dN)) O from congrArg aY g
  refine .trans (sq (cI (.trans (orb (jR rfl rfl) (jR rfl ((cU rfl d rfl rfl).trans (rF d)))) (by simp;omega)))) (.trans (sq (bh (aP (dW rfl d zd rfl) (An rfl rfl) (by
   rw[show a - 1=((a - 1:Nat):Int) by omega]
   exact Lb hx)))) ?_)
  by_cases h3:x.1=32
  ·rw[if_pos h3];have j:bf ["Leaps"] "inks" (aa 0) [some _,some (dK x)] O=.ok _ O:=dW rfl d zd rfl
   have cl:=iH (g:=mgN 0) (t:=bV) (m:=aX (aj (mG (aa 1)) (aj (aX (aj (aa 0) (aj (ak gIx (aa 2) (kI 2)) ao))) ao))) (λρ=>∃b,ρ=[b,some _,some (dK x)]) st _ C [none,some (.int a),some (dK x)] O [] ⟨_,rfl⟩ (by
    rintro c _ ρ ⟨b,rfl⟩
    exact⟨_,rfl,⟨_,rfl⟩,rfl,rfl⟩)
   exact sqr (.trans (eZ (.trans (bR (aP rfl rfl (vf _ _))) (by simp[h3]))) (.trans (fj (jT (dj j) (by rw[zf];omega) rfl cl)) (by rw[zO];rfl)))
  ·rw[if_neg h3];exact .trans (sq (cI (.trans (bR (aP rfl rfl (vf _ _))) (by simp[h3])))) rfl
def vq:MS:=(aq (aB 6 (aC uO (aj (ak gIx (aa 1) (kI 1)) (aj (ak gIx (aa 5) (kI 1)) ao))))
  (eG 4 (aX (aj (aU bc (aj (aa 6) ao)) (aj (ak aH (aa 6) (aa 3)) (aj (aa 5) ao))))))
theorem Le(n:Nd)(s:List Nat)(hs:s.length<=2)(m a2:Option D):∀(bs:List Nd) (acc:List D) (t j:Option D),acc.length+bs.length<1000000->∃f d,bj (mgN 5) vq (bs.map dN) [m,some (dN n),a2,some (.str s),some (.lst acc),t,j] O=.nx [m,some (dN n),a2,some (.str s),some (.lst (acc++bs.map λb=>d3 ⟨((mb n.2 b.2).length:Int),mb n.2 b.2++s,b⟩)),f,d] O
 | [],acc,t,j,_=>⟨t,j,by rw[zX,zX,zG];rfl⟩
 |b::bs,acc,t,j,hl=>by
  rw[zw] at hl;have x:=K7 n.2 b.2;obtain⟨f,d,e⟩:=Le n s hs m a2 bs (acc++[d3 _]) _ _ (by rw[ze,zR];omega);refine⟨f,d,?_⟩
  have u:vq [m,some (dN n),a2,some (.str s),some (.lst acc),some (dN b),j] O=.nx [m,some (dN n),a2,some (.str s),some (.lst (acc++[d3 ⟨(mb n.2 b.2).length,mb n.2 b.2++s,b⟩])),some (dN b),some (.str (mb n.2 b.2))] O:=by
   unfold vq;rw[sq (bh ((bw (maS (aP rfl rfl rfl) (ma1 (aP rfl rfl rfl)))).trans (QqX _ _ O)))];rw[u6 (qX (maS (rE rfl (by omega)) (maS (gH rfl rfl (by omega)) (ma1 rfl))) (show 3<=1000000 by decide)) rfl (by omega)];rfl
  rw[zg,fc rfl u,e,zB];rfl
def QwY(d:O[t]?=some (.ins "Leaps" (lfs l Q)))(m:Q.length<=100)  (P:a<=l.length+1)  (G:n∈nds l Q a):mU [.ob t,dN n] O=.ok (.lst ((lmv l Q n).map d3)) O:=by
 have h1:=lE G;have C:aB 2 (ak gIx (aa 1) (kI 0)) [some (.ob t),some (dN n),none,none,none,none,none] O=.nx [some (.ob t),some (dN n),some (.int n.1),none,none,none,none] O:=rfl;have F:aQ "Leaps" "last_at" _ (aa 0) ao [some (.ob t),some (dN n),some (.int n.1),none,none,none,none] O=.ok _ O:=(cU rfl d rfl rfl).trans (rF d);have t1:az (ak gEq (aa 2) _) _ O=.ok _ O:=jR rfl F;show aY (yP [some (.ob t),some (dN n),none,none,none,none,none] O)=_;unfold yP lmv;rw[sq C]
 by_cases h:n.1=(l.length:Int)+1
 ·rw[zv h] at t1;rw[if_pos h,eV,ifY t1];rfl
 ·rw[zq h] at t1;rw[if_neg h,sq (ifN t1)];have u:bf ["Leaps"] "look" (aa 0) [some (.ob t),some (dN n),some (.int n.1),none,none,none,none] O=.ok _ O:=dW (n:=t) rfl d zd rfl;have j:=lD u;rw[zf] at j
  have x:n.1.toNat=a:=by omega
  have y:mIf (az (ak gLt (aa 2) (aU bc (aj (bf ["Leaps"] "look" (aa 0)) ao)))) (aC jQ (aj (kS [115,105,103,110]) (aj (ak gIx (ak gIx (bf ["Leaps"] "look" (aa 0)) (aa 2)) (kI 0)) ao))) (kS []) [some (.ob t),some (dN n),some (.int n.1),none,none,none,none] O=.ok (.str (sg l n.1.toNat)) O:=by
   rw[iD,u9 rfl j,aL,x];unfold sg
   by_cases f:a<l.length
   ·rw[zv (by omega),zt f];exact(bw (maS rfl (ma1 (aP (aP u rfl (by rw[h1];exact Lb (zt f))) rfl rfl)))).trans (Qxz _ O)
   ·rw[zq (by omega),jq (by omega)];rfl
  rw[sq (bh y)];show aY (aq _ _ [some (.ob t),some (dN n),some (.int n.1),some _,none,none,none] O)=_;rw[sq (show aB 4 _ _ O=.nx [some (.ob t),some (dN n),some (.int n.1),some _,some (.lst []),none,none] O from rfl)]
  have E:aQ "Leaps" "nodes_at" oV (aa 0) (aj (ak aH (aa 2) (kI 1)) ao) [some (.ob t),some (dN n),some (.int n.1),some (.str (sg l n.1.toNat)),some (.lst []),none,none] O=.ok (.lst ((nds l Q (n.1.toNat+1)).map dN)) O:=by
   refine(cU rfl d rfl (ma1 ((mV rfl rfl).trans ?_))).trans (Ld d m (by omega));congr 2;omega
  have I:(nds l Q (n.1.toNat+1)).length<=100:=by
   unfold nds
   split
   ·show 1<=100;decide
   ·split
    ·split
     ·rw[zf];exact m
     ·show 1<=100;decide
    ·exact Nat.zero_le _
  obtain⟨L,J,e⟩:=Le (O:=O) n _ (La _ _) _ _ (nds l Q (n.1.toNat+1)) [] none none (by rw[je];omega);unfold vq at e;rw[eV,qD,dj E,qF,e,jK,zO];rfl
def Qxl(d:O[t]?=some (.ins "Leaps" (lfs l j)))(n:Nd):lC [.ob t,dN n] O=.ok (.bl (oY l n)) O:=by
 have f:aQ _ "last_at" _ (aa 0) ao [some _,some (dN n)] O=.ok _ O:=(cU rfl d rfl rfl).trans (rF d);show aY (yQ [some _,some _] O)=_;unfold yQ;rw[dO,aP (aP rfl rfl rfl) f rfl];rfl
def vz(t:Nat)   (hl:l.length<=250)(hc:cs.length<=10)(hcn:cs.Nodup):Trl t (lfs l cs) (l.length+1) (nds l cs) (lmv l cs) (oY l) where
 na:=λO a ht ha=>Ld ht (by omega) ha
 mf:=λO a n ht ha hn=>QwY ht (by omega) ha hn
 ie:=λO a n ht _ _=>Qxl ht n
 la:=λO ht=>rF ht
 fi:=λO ht=>rfl
 f0:=by
  unfold nds;rw[if_pos (.inl rfl)];exact zd
 nd:=λa=>by
  unfold nds
  split
  ·exact List.pairwise_singleton _ _
  ·split
   ·split
    ·refine List.Pairwise.map _ (R:=λa b=>a≠b) (λa b h z=>h ?_) hcn;exact congrArg (λn:Nd=>n.2.1) z
    ·exact List.pairwise_singleton _ _
   ·exact List.nodup_nil
 ln:=λa=>by
  unfold nds
  split
  ·show 1<=10;decide
  ·split
   ·split
    ·rw[zf];exact hc
    ·show 1<=10;decide
   ·exact Nat.zero_le _
 fw:=λa n ha hn m hm=>by
  have h1:=lE hn;unfold lmv at hm;split at hm
  ·cases hm
  ·rename_i hne;obtain⟨b,hb,rfl⟩:=zz.mp hm
   have ta:n.1.toNat=a:=by omega
   rw[ta] at hb;exact⟨a+1,by omega,by omega,hb⟩
 sp:=λa b n h1 h2=>by
  have:=lE h1
  have:=lE h2
  omega
 ml:=λn=>by
  unfold lmv
  split
  ·exact Nat.zero_le _
  ·rw[zf];unfold nds
   split
   ·show 1<=1000;decide
   ·split
    ·split
     ·rw[zf];omega
     ·show 1<=1000;decide
    ·exact Nat.zero_le _
 fe:=λn h=>by
  unfold lmv;rw[if_pos (zP h)]
 u1:=rfl
 u2:=rfl
 u3:=rfl
 u4:=rfl
 u5:=rfl
 hN:=by omega
structure LkT(l:List L3)(cs:List Nat):Prop where
 ll:l.length<=250
 cl:cs.length<=10
 cn:cs.Nodup
 c0:cs≠[]
def txt(ms:List M3):List Nat:=(ms.map (·.name)).flatten
def Bg(m:M3)(ms:List M3):txt (m::ms)=m.name++txt ms:=rfl
def Qy7   (h:LkT l f)(a:Nat)(d:a<=l.length+1):nds l f a≠[]:=by
 unfold nds
 split
 ·exact List.cons_ne_nil _ _
 ·rw[zt (show a - 1<l.length by omega)]
  dsimp
  split
  ·intro z;exact h.c0 (List.map_eq_nil_iff.mp z)
  ·exact List.cons_ne_nil _ _
def QyE   (h:LkT l t)(a:Nat)(n:Nd)(m:a<=l.length+1)(f:n∈nds l t a)(j:oY l n=false):lmv l t n≠[]:=by
 have h1:=lE f;have d :=of_decide_eq_false j;unfold lmv;rw[if_neg d];intro z;exact Qy7 h _ (by omega) (List.map_eq_nil_iff.mp z)
theorem Lf:∀ms:List M3,fG (ms.map λm=>D.str m.name)=some (ms.map (·.name))
 | []=>rfl
 |m::ms=>by
  show(fG _).map _=_;rw[Lf];rfl
theorem Lg:∀ms:List M3,((ms.map (·.name)).map List.length).sum=(txt ms).length
 | []=>rfl
 |m::ms=>by
  rw[Bg,ze,<-Lg];rfl
def Lh(l:List L3):List (Str×D):=[("look",.lst (l.map dK))]
def pfl(l:List L3):putD "look" (.lst (l.map dK)) []=Lh l:=rfl
def Qvv(O:au)   (d:∀O,qT [.lst (l.map dK),.int 1] O=.ok (.lst (f.map st)) O):uQ [.ob O.length,.lst (l.map dK)] (O++[.ins "Leaps" []])=.ok .non (O++[.ins "Leaps" (lfs l f)]):=by
 show aY _=_;unfold J0;rw[sq (gY (c:="Leaps") (fs:=[]) (Av rfl rfl) rfl fO zd (by decide)),qZ,pfl];rw[gY (c:="Leaps") (fs:=Lh l) ((bw (maS rfl (ma1 rfl))).trans (d _)) rfl fO zd (by show 1<900;decide),qZ];rfl
theorem Bh   :∀(ms:List M3) (a:Nat) (n:Nd),a<=l.length+1->n∈nds l cs a->Wy ps (lmv l cs) (oY l) n ms->(txt ms).length<=11 * (l.length+1 - a)
 | [],a,n,ha,hn,w=>Nat.zero_le _
 |m::ms,a,n,ha,hn,⟨hf,hm,_,w⟩=>by
  have h1:=lE hn;have d :=of_decide_eq_false hf;unfold lmv at hm;rw[if_neg d] at hm;obtain⟨b,f,rfl⟩:=zz.mp hm;have i:=Bh ms _ b (by omega) f w;have lb:=K7 n.2 b.2;have ls:=La l n.1.toNat;rw[Bg];rw[ze,ze];omega
def Kp(O d:au):Prop:=∀(j:Nat) (x:Ob),O[j]?=some x->d[j]?=some x
def QtV{fs:List (Str×D)}{N:Nat}{nodes:Nat->List Nd}{f:Nd->List M3}{fin:Nd->Bool}(T:Trl t fs N nodes f fin){ps d:Tb}(h:Pri N nodes f fin 0 ps)(h':Pri N nodes f fin 0 d):∀(k a:Nat) (n:Nd),a+k=N->n∈nodes a->lk d n=lk ps n:=by
 intro k
 induction k using Nat.strongRecOn with
 | _ k ih =>
  intro a n y j
  have e :=vg λm u=>by
   obtain⟨b,E,C,x⟩:=T.fw a n (by omega) j m u;exact ih (N - b) (by omega) b _ (by omega) x
  rw[h a (Nat.zero_le _) (by omega) n j,h' a (Nat.zero_le _) (by omega) n j];unfold fnl
  dsimp
  rw[e]
theorem Li{α:Type}{f g:α->Bool}:∀{l:List α},(∀x∈l,f x=g x)->l.find? f=l.find? g
 | [],_=>rfl
 |x::l,h=>by
  rw[List.find?_cons,List.find?_cons,h x zd,Li λy d=>h y (zm _ d)]
theorem Lj{fs:List (Str×D)}{N:Nat}{nodes:Nat->List Nd}{f:Nd->List M3}{fin:Nd->Bool}(T:Trl t fs N nodes f fin){ps j:Tb}(h:Pri N nodes f fin 0 ps)(h':Pri N nodes f fin 0 j):∀(ms d:List M3) (a:Nat) (n:Nd),a<=N->n∈nodes a->Wy ps f fin n ms->Wy j f fin n d->d=ms
 | [],[],_,_,_,_,_,_=>rfl
 | [],m'::d,a,n,_,_,w,w'=>by
  have C :=w;have u :=w'.1;rw[C] at u;cases u
 |m::ms,[],a,n,_,_,w,w'=>by
  have C :=w';have u :=w.1;rw[C] at u;cases u
 |m::ms,m'::d,a,n,ha,hn,⟨_,hm,f1,w⟩,⟨_,hm',f2,w'⟩=>by
  have y:∀x∈f n,lk _ _=lk ps _:=λx hx=>by
   obtain⟨b,J,F,E⟩:=T.fw a n ha hn x hx;exact QtV T h h' (N - b) b _ (by omega) E
  have e :=vg y
  have I:(f n).find? (λm=>decide (co _ m=lc _ _))=(f n).find? _:=Li λx hx=>by
   have:co j x=co ps x:=by
    unfold co;rw[y x hx]
   rw[this,e]
  rw[I,f1] at f2;have G:=zE f2;subst G;obtain⟨b,J,F,E⟩:=T.fw a n ha hn m hm;rw[Lj T h h' ms _ b _ F E w w']
def Qs2   (h:LkT l R)(L:∀O,qT [.lst (l.map dK),.int 1] O=.ok (.lst (R.map st)) O):∃ms ps,Wy ps (lmv l R) (oY l) (0,(46,46)) ms/\∀O,∃d,uR [.lst (l.map dK)] O=.ok (.str (txt ms)) d/\Kp O d:=by
 have Q:=h.ll
 have f:=λO:au=>QA5 (vz O.length h.ll h.cl h.cn) (QyE h) (by omega) fO
 obtain⟨_,y,_,t,_,_,C,_,u⟩:=f [];have h0:=(vz 0 h.ll h.cl h.cn).f0;refine⟨t,y,u,λO=>?_⟩;obtain⟨d,ps,c,ms,e,k,P,_,F⟩:=f O;obtain rfl :=Lj (vz 0 h.ll h.cl h.cn) C P t ms 0 _ (Nat.zero_le _) h0 u F;have hlen:=Bh ms 0 _ (Nat.zero_le _) h0 F;refine⟨d,?_,λj x E=>k j x (by rw[zF (zu.mp E).1];exact E)⟩
 have mk:dh "Leaps" uQ (aj (aa 0) ao) [some (.lst (l.map dK)),none] O=.ok (.ob O.length) (O++[.ins "Leaps" (lfs l R)]):=by
  rw[Ik,ma1 rfl,aL,Qvv O L,Il]
 have I :=(Ke (oW mk)).trans e
 have J:jC (ak gIx (aa 1) (kI 1)) [some (.lst (l.map dK)),some (.tup [.int c,.lst (ms.map λm=>.str m.name)])] d=.ok (.str (txt ms)) d:=by
  unfold jC;rw[show ak gIx (aa 1) _ _ d=.ok _ d from rfl,aL];dsimp only[fH];rw[Lf];dsimp only;rw[if_pos (by rw[Lg];omega)];rfl
 have G:z7 [.lst (l.map dK)] O=.ok (.tup [.int c,.str (txt ms)]) d:=by
  show aY (yZ [some _,none] O)=_;unfold yZ;rw[sq (Bb I)];show aY (aA _ [some _,some _] d)=_;rw[dO,qX (maS rfl (ma1 J)) (show 2<=1000000 by decide)];rfl
 show aY _=_;unfold J1;rw[dO,qY ((Ke (oW rfl)).trans G) rfl rfl];rfl
structure Okt(t:List Nat):Prop where
 len:t.length<=5000
 ok:∀c∈t,(32<=c/\c<=125)\/c=10\/c=9
def Okt.lt  (h:Okt t):∀c∈t,c<128:=λc d=>by
 have:=h.ok c d
 omega
def Okt.asc  (h:Okt t):ascii t=true:=by
 unfold ascii;rw[jj];intro c d;exact zv (h.lt c d)
@[simp] theorem QDV :gIx (.str [a]) (.int 0)=some (.str [a]):=rfl
@[simp] theorem QEq :gIx (.str [a,b]) (.int 0)=some (.str [a]):=rfl
@[simp] theorem QDZ :gIx (.str [a,b]) (.int 1)=some (.str [b]):=rfl
@[simp] theorem QEh :gIx (.str [a,b,c]) (.int 0)=some (.str [a]):=rfl
@[simp] theorem QD5 :gIx (.str [a,b,c]) (.int 1)=some (.str [b]):=rfl
@[simp] theorem QEp :gIx (.str [a,b,c]) (.int 2)=some (.str [c]):=rfl
@[simp] theorem QD8 :gIx (.str [a,b,c,d]) (.int 0)=some (.str [a]):=rfl
@[simp] theorem QEc :gIx (.str [a,b,c,d]) (.int 1)=some (.str [b]):=rfl
@[simp] theorem QEr :gIx (.str [a,b,c,d]) (.int 2)=some (.str [c]):=rfl
@[simp] theorem QEm :gIx (.str [a,b,c,d]) (.int 3)=some (.str [d]):=rfl
@[simp] theorem QEe :gIx (.tup [a,b]) (.int 0)=some a:=rfl
@[simp] theorem QEl :gIx (.tup [a,b]) (.int 1)=some b:=rfl
@[simp] theorem QEt :gIx (.tup [a,b,c]) (.int 0)=some a:=rfl
@[simp] theorem QEb :gIx (.tup [a,b,c]) (.int 1)=some b:=rfl
@[simp] theorem QEu :gIx (.tup [a,b,c]) (.int 2)=some c:=rfl
def vA(c:Nat)(O:au):mK [.str [c]] O=.ok (.bl (col c)) O:=by
 simp[mK,Jl,col]
def Qpo(c:Nat)(O:au):oM [.str [c]] O=.ok (.bl (decide (32<=c/\c<=125))) O:=by
 simp[oM,Jk]
 grind
def Ln   {i:Nat}(h:(cQ 0 (cA t))[i]?=some d):∃c,c∈t/\d=.tup [.int i,.str [c]]:=by
 rw[tH] at h;unfold cA at h
 grind
def Qsh(t:List Nat)(h:Okt t)(O:au):uF [.str t] O=.ok .non O:=by
 obtain⟨x,m,j⟩:=ux (g:=cW 2 (bB (mgN 1) (bB (mgN 2) dC)))
  (b:=aJ (dB (cC (bK (aC oM (aj (aa 2) ao))) (cC (az (ak gEq (aa 2) (kS [10]))) (az (ak gEq (aa 2) (kS [9])))))) _ aM)
  (λi ρ f=>f=O/\∃m j,ρ=[some (.str t),m,j]) _ 0 _ O ⟨rfl,none,none,rfl⟩ (by
   rintro i d ρ f hi ⟨rfl,m,j,rfl⟩;obtain⟨c,u,rfl⟩:=Ln hi;refine⟨_,rfl,_,_,.inl ?_,rfl,some (.int i),some (.str [c]),rfl⟩
   have:=h.ok c u
   have e:cC (bK (aC oM (aj (aa 2) ao))) (cC (az (ak gEq (aa 2) (kS [10]))) (az (ak gEq (aa 2) (kS [9])))) [some (.str t),some (.int i),some (.str [c])] f=.ok true f:=by
    simp[Qpo]
    omega
   show aJ _ gO _ [some _,some _,some _] f=_;simp only[lr,mH,e]
   rfl)
 simp  [uF,Jo,Ip h.asc]
 simp_all
def mkD:Option (List Nat×List Nat)->D
 |some (k,v)=>.tup [.str k,.str v]
 |none=>.non
def QxR(s:List Nat)(h0:1<=s.length)(h4:s.length<=4)(O:au):mL [.str s] O=.ok (mkD (markB s)) O:=by
 match s,h0,h4 with
 | [a],_,_=>simp[mL,qH,markB,mkD]
 | [a,b],_,_ =>
  simp[mL,qH,markB]
  by_cases h1:a=91/\b=93
  ·simp[h1,mkD,jM]
  ·by_cases h2:a=91/\b=91
   ·simp[h2,mkD,bu]
   ·simp[h1,h2,mkD]
 | [a,b,c],_,_ =>
  simp[mL,qH,markB,vA]
  by_cases h1:a=91
  ·by_cases h2:col b=true
   ·by_cases h3:c=93
    ·simp[h1,h2,h3,mkD,eX]
    ·simp[h1,h2,h3,mkD]
   ·simp[h1,h2,mkD]
  ·simp[h1,mkD]
 | [a,b,c,d],_,_ =>
  simp[mL,qH,markB,vA]
  by_cases h1:a=91
  ·by_cases f:b=47
   ·by_cases h2:col c=true
    ·by_cases h3:d=93
     ·simp[h1,h2,h3,f,mkD,fJ]
     ·simp[h1,h2,h3,f,mkD]
    ·simp[h1,h2,f,mkD]
   ·simp[h1,f,mkD]
  ·simp[h1,mkD]
def QBx(s:List Nat)(h0:1<=s.length)(h4:s.length<=4)(O:au):mO [.str s] O=.ok (.bl (cM s)) O:=by
 match s,h0,h4 with
 | [a],_,_ =>
  simp[mO,qI,cM]
  grind
 | [a,b],_,_ =>
  simp[mO,qI,cM,vA]
  grind
 | [a,b,c],_,_ =>
  simp[mO,qI,cM,vA]
  grind
 | [a,b,c,d],_,_ =>
  simp[mO,qI,cM]
def QAF(p:Int)(c:Nat)(O:au):qJ [.int p,.str [c]] O=.ok (own p c) O:=by
 simp[qJ,Jp,own,item]
 by_cases h1:c=10
 ·simp[h1,jL]
 ·by_cases h2:c=9
  ·simp[h2,oJ]
  ·simp[h1,h2,bu]
theorem Lp(p:Int):∀(l:List Nat) (k:Nat),(cQ k (cA l)).map (λd=>match d with | .tup [.int i,.str [c]]=>own (p+i) c | _=>.non)=owns (p+k) l
 | [],k=>rfl
 |c::l,k=>by
  show own _ c::(cQ _ (cA l)).map _=own _ c::owns _ l;rw[Lp ]
  grind
def Bj(p:Int)(l:List Nat)(j:ascii l=true)(t:l.length<=100000)(O:au):oN [.int p,.str l] O=.ok (.lst (owns p l)) O:=by
 have hl':(cQ 0 (cA l)).length<=1000000:=by rw[tG];unfold cA;grind
 have m:b7 (cW 2 (bB (mgN 0) (bB (mgN 1) dC))) bV (aC qJ (aj (ak aH (aa 2) (aa 0)) (aj (aa 1) ao))) (cQ 0 (cA l)) [none,none,some (.int p)] O []=.ok (owns p l) O:=by
  rw[HS (λρ=>∃a b,ρ=[a,b,some _]) (λd=>match d with | .tup [.int i,.str [c]]=>own (p+i) c | _=>.non) _ _ _ _ ⟨none,none,rfl⟩ (by
   rintro d hd ρ ⟨a,b,rfl⟩;obtain⟨i,f⟩:=List.mem_iff_getElem?.mp hd;obtain⟨c,u,rfl⟩:=Ln f;refine⟨_,rfl,⟨_,_,rfl⟩,rfl,?_⟩
   simp[QAF])]
  rw[Lp ];simp
 simp[oN,Jq,Ip j,hl',m]
def RO(h:List Nat)(p:Int):Ob:=.ins "Reader" [("held",.str h),("place",.int p)]
def fh     (e:O[n]?=some (RO h p)):dR ["Reader"] "held" (.ob n) O=.ok (.str h) O:=by
 unfold dR;dsimp ;rw[e];rfl
def fp     (e:O[n]?=some (RO h p)):dR ["Reader"] "place" (.ob n) O=.ok (.int p) O:=by
 unfold dR;dsimp ;rw[e];rfl
def ph      (e:O[n]?=some (RO h p)):puF ["Reader"] "held" (.str h') ρ (.ok (.ob n) O)=.nx ρ (O.set n (RO h' p)):=by
 unfold puF;dsimp ;rw[e];rfl
def pp      (e:O[n]?=some (RO h p)):puF ["Reader"] "place" (.int d) ρ (.ok (.ob n) O)=.nx ρ (O.set n (RO h d)):=by
 unfold puF;dsimp ;rw[e];rfl
def gs{O:au}   (e:O[n]?=some x):(O.set n y)[n]?=some y:=by
 grind
def Bk  (H:bA h):ascii h=true:=by
 cases H with
 | h0
 | h1
 |h2=>rfl
 | h3 x hx
 |h4 x hx =>
  have :=zP hx
  have q:∀c∈[97,98,99,100,101,102,103,104,46],c<128:=by decide
  simp[ascii,q x this]
def Qwf   (h:ascii a=true)(d:c<128):ascii (a++[c])=true:=by
 unfold ascii at *
 grind
def QzG     (e:O[n]?=some (RO h p))(H:bA h)(c:Nat)(x:c<128):iK [.ob n,.str [c]] O=.ok (.lst (tk h c (p - h.length)).1) (O.set n (RO (tk h c (p - h.length)).2 (p+1))):=by
 have E:=H.len;have d:(O.set n _)[n]?=some (RO h (p+1)):=gs e
 have u:h.length+1<=1000000:=by omega
 have t:h.length<=1000000:=by omega
 have s0:1<=(h++[c]).length:=by simp
 have f:(h++[c]).length<=4:=by simp;omega
 have C:=QBx _ s0 f;have y:=QxR _ s0 f
 have f3:=λO=>Bj (p - h.length) h (Bk H) (by omega) O
 have f4:=λO=>Bj (p - h.length) _ (Qwf (Bk H) x) (by omega) O
 unfold tk;simp[iK,Ju,fh e,fp e,pp e,u,t,C]
 by_cases m:cM (h++[c])=true
 ·simp[m,ph d]
 ·simp[m,y]
  cases  markB _ with
  |some  =>
   simp[mkD,ph d,item]
  |none =>
   simp[mkD]
   by_cases j:c=91
   ·subst j;simp[fh d,f3,ph d]
   ·simp[j,ph d,f4]
theorem Bl:∀(l:List Nat) (p:Int),(owns p l).length=l.length
 | [],_=>rfl
 |c::l,p=>by show(owns _ l).length+1=l.length+1;rw[Bl]
def Lq  (H:bA h)(c:Nat)(p:Int):(tk h c p).1.length<=4:=by
 have:=H.len
 unfold tk
 split
 ·simp
 ·split
  ·simp
  ·split<;>simp[Bl]<;>omega
theorem Lr:∀(t:List Nat) {h:List Nat} (_:bA h) (p:Int),(aZ h p t).1.length<=4 * t.length
 | [],h,H,p=>by simp[aZ]
 |c::t,h,H,p=>by
  have a:=Lq H c (p - h.length);have b:=Lr t (yp H c (p - h.length) []).1 (p+1);simp only[aZ,ze,zw];omega
def Qts{O:au}  :(O.set n x).set n y=O.set n y:=by simp
theorem Ls{n:Nat}{t0:List Nat}:∀(t:List Nat) (h:List Nat) (_:bA h) (p:Int) (acc:List D) (O:au) (j:Option D),O[n]?=some (RO h p)->(∀c∈t,c<128)->acc.length+4 * t.length<=1000000 ->
  ∃f,bj (mgN 3) (gq 2 (aQ "Reader" "take" iK (aa 0) (aj (aa 3) ao))) (cA t) [some (.ob n),some (.str t0),some (.lst acc),j] O=.nx [some (.ob n),some (.str t0),some (.lst (acc++(aZ h p t).1)),f] (O.set n (RO (aZ h p t).2 (p+t.length)))
 | [],h,H,p,acc,O,j,e,_,_=>by
  refine⟨j,?_⟩;obtain⟨C,y⟩:=zu.mp e;show Fl.nx _ O=_;simp only[aZ,zG,je]
  have:O.set n (RO h p)=O:=by rw[<-y];exact List.set_getElem_self _
  simp[this]
 |c::t,h,H,p,acc,O,j,e,hc,hl=>by
  have u:=QzG e H c (hc c zd)
  have m:meF "Reader" "take" iK (aj (aa 3) ao [some (.ob n),some (.str t0),some (.lst acc),some (.str [c])]) (.ob n) O=iK [.ob n,.str [c]] O:=by
   unfold meF;dsimp only;rw[e];rfl
  have tl:=Lq H c (p - h.length);simp only[zw] at hl;obtain⟨f,q⟩:=Ls t (tk h c (p - h.length)).2 (yp H c (p - h.length) []).1 (p+1) (acc++(tk h c (p - h.length)).1) (O.set n (RO (tk h c (p - h.length)).2 (p+1))) (some (.str [c])) (gs e) (λd hd=>hc d (zm _ hd)) (by rw[ze];omega);refine⟨f,?_⟩
  have x:(gq 2 (aQ "Reader" "take" iK (aa 0) (aj (aa 3) ao))) [some (.ob n),some (.str t0),some (.lst acc),some (.str [c])] O=.nx [some (.ob n),some (.str t0),some (.lst (acc++(tk h c (p - h.length)).1)),some (.str [c])] (O.set n (RO (tk h c (p - h.length)).2 (p+1))):=by
   rw[Im,uA,gb];show exF 2 (meF "Reader" "take" iK _ (.ob n) O) _=_;rw[m,u,Io (ds:=acc) rfl (by omega)];rfl
  show bj _ _ (D.str [c]::cA t) _ O=_;unfold bj;rw[mg_n];dsimp only
  show(match(gq 2 (aQ "Reader" "take" iK (aa 0) (aj (aa 3) ao))) [some (.ob n),some (.str t0),some (.lst acc),some (.str [c])] O with
   | .nx ρ' O'=>bj _ _ (cA t) ρ' O' | .ct ρ' O'=>bj _ _ (cA t) ρ' O' | .bk ρ' O'=>Fl.nx ρ' O' | r=>r)=_
  rw[x];dsimp only;rw[q,Qts];simp only[aZ,zB,zw];congr 3
  push_cast
  omega
def Lw     (e:O[n]?=some (RO h p))(H:bA h)(t:List Nat)(d:Okt t):qK [.ob n,.str t] O=.ok (.lst (aZ h p t).1) (O.set n (RO (aZ h p t).2 (p+t.length))):=by
 have j:=d.len;obtain⟨f,q⟩:=Ls (t0:=t) t h H p [] O none e d.lt (by simp;omega);have q' :=q;simp only[qK,Jv,QBn,zg,zX,zw,je,List.replicate,List.cons_append,zU,eV,qx,oE,jJ,mJ,gb,jp,jr,aL,Qsh t d,uv,jK,qz,Ho,Nat.zero_le,if_true,qC,List.set_cons_succ,List.set_cons_zero,qD,oF,HB d.asc,yc,qF,q',dO,Hw,Qwa]
def Lx     (e:O[n]?=some (RO h p))(H:bA h):qL [.ob n] O=.ok (.lst (owns (p - h.length) h)) (O.set n (RO [] p)):=by
 have f:=H.len
 have d:h.length<=1000000:=by omega
 have f3:=λO=>Bj (p - h.length) h (Bk H) (by omega) O
 simp[qL,Jx,fh e,fp e,d,f3,ph e]
def QyR(O:au):oO [.ob O.length] (O++[.ins "Reader" []])=.ok .non (O++[RO [] 0]):=by
 have a:(O++[Ob.ins "Reader" []])[O.length]?=some (.ins "Reader" []):=by simp
 have f:∀ρ,puF ["Reader"] "held" (.str []) ρ (.ok (.ob _) _)=.nx ρ (O++[.ins "Reader" [("held",.str [])]]):=λρ=>by
  unfold puF
  dsimp
  rw[a];simp[putD]
 have b:(O++[Ob.ins "Reader" [("held",.str [])]])[O.length]?=some (.ins "Reader" [("held",.str [])]):=by simp
 have d:∀ρ,puF ["Reader"] _ _ ρ (.ok (.ob _) _)=.nx ρ (O++[RO [] 0]):=λρ=>by
  unfold puF
  dsimp
  rw[b]
  dsimp
  have:putD "place" (.int 0) [("held",.str [])]=[(("held":Str),D.str []),("place",.int 0)]:=by rfl
  rw[this];simp[RO]
 simp[oO,Js,f,d]
def Ly(ρ:aK)(O:au):dh "Reader" oO ao ρ O=.ok (.ob O.length) (O++[RO [] 0]):=by
 simp[QyR]
def Bm(O:au):(O++[RO [] 0])[O.length]?=some (RO [] 0):=by simp
def Bo  (l:List α)(a b:Nat):cG l (some (a:Int)) (some (b:Int))=(l.drop a).take (b - a):=by
 unfold cG;rw[HT.sIx_nat,HT.sIx_nat]
 by_cases h:a<=l.length
 ·rw[Nat.min_eq_left h]
  by_cases  b<=l.length
  ·grind
  ·rw[List.take_of_length_le (by grind),List.take_of_length_le (by grind)]
 ·rw[Nat.min_eq_right (show l.length<=a by omega),List.drop_eq_nil_of_le (show l.length<=a by omega)];simp
def Lz  (l:List α)(b:Nat):cG l none (some (b:Int))=l.take b:=by
 unfold cG;rw[HT.sIx_nat,HT.sIx_none];simp
def LC  (l:List α)(a:Nat):cG l (some (a:Int)) none=l.drop a:=by
 unfold cG;rw[HT.sIx_nat,HT.sIx_none]
 by_cases h:a<=l.length
 ·rw[Nat.min_eq_left h,List.take_of_length_le (by simp)]
 ·rw[List.drop_eq_nil_of_le (by omega),List.drop_eq_nil_of_le (by omega)];simp
@[simp] theorem QCh{a:Nat}:cG [a] none (some 2)=[a]:=rfl
@[simp] theorem QBV{a:Nat}:cG [a,b] none (some 2)=[a,b]:=rfl
@[simp] theorem QCq{a:Nat}:cG [a,b,c] none (some 2)=[a,b]:=rfl
@[simp] theorem QCC{a:Nat}:cG [a,b,c,d] none (some 2)=[a,b]:=rfl
def Qzf :gIn false (.str [c]) (.str [97,98,99,100,101,102,103,104,46])=some (.bl (col c)):=by
 simp[col]
def itF(d:Nat)(x:List Nat×List Nat×Nat):D:=.tup [item d x.1 x.2.1,.int (x.2.2+1:Nat)]
def ifc         (h:T ρ O=.ok b O)(h1:b=true->∃x,e ρ O=.ok (itF p x) O/\x=y)(h2:b=false->r ρ O=.rt (itF p y) O):aq (aJ T (aA e) aM) r ρ O=.rt (itF p y) O:=by
 cases b
 ·simp_all
 simp_all
def Bp      (h:e ρ O=.ok (itF p x) O)(h2:x=y):aA e ρ O=.rt (itF p y) O:=by simp_all
def eqS     (d:m ρ O=.ok (.str a) O)(hb:q ρ O=.ok (.str b) O):az (ak gEq m q) ρ O=.ok (decide (a=b)) O:=bR (aP d hb rfl)
def inC     (d:m ρ O=.ok (.str [c]) O)(hb:q ρ O=.ok (.str [97,98,99,100,101,102,103,104,46]) O):az (ak (gIn false) m q) ρ O=.ok (col c) O:=bR (aP d hb Qzf)
def Qpw(t:List Nat)(C:t.length<=1000000)(j:Nat)(c:Nat)(r:List Nat)(m:t.drop j=c::r)(O:au):uY [.str t,.int j] O=.ok (.tup [item j (one c r).1 (one c r).2.1,.int ((one c r).2.2+1:Nat)]) O:=by
 have hs:mSl (aa 0) (moS (mG (aa 1))) (moS (ak aH (aa 1) (kI 4))) [some (.str t),some (.int j),some (.str [97,98,99,100,101,102,103,104,46]),none] O=.ok (.str ((c::r).take 4)) O:=by
  show ofO (gSl (.str t) (some (j:Int)) (some ((j:Int)+4))) O=_;rw[Ht,if_pos (by omega),show(j:Int)+4=((j+4:Nat):Int) by push_cast;rfl,Bo,m,show j+4 - j=4 by omega];rfl
 suffices h:Af [some (.str t),some (.int j),none,none] O=.rt (itF j (one c r)) O from congrArg aY h
 unfold Af;refine(sq (bh m_c)).trans ((sq (bh hs)).trans ?_)
 rcases r with _ | ⟨d,_ | ⟨e,_ | ⟨f,g⟩⟩⟩<;>refine ifc (eqS rfl rfl) (λh=>⟨(jL,[],0),rfl,?_⟩) λh1=>ifc (eqS rfl rfl) (λh=>⟨(oJ,[],0),rfl,?_⟩) λh2=>ifc (eqS rfl rfl) (λh=>⟨(jM,[],1),rfl,?_⟩) λh3=>ifc (eqS rfl rfl) (λh=>⟨(bu,[91],1),rfl,?_⟩) λh4=>?_
 all_goals first
  |refine ifc (jV (b:=true) rfl (jV (eqS rfl rfl) (jV (inC rfl rfl) (eqS rfl rfl)))) (λh=>⟨(eX,[_],2),rfl,?_⟩) λy=>ifc (jV (b:=true) rfl (jV (eqS rfl rfl) (jV (inC rfl rfl) (eqS rfl rfl)))) (λh=>⟨(fJ,[_],3),rfl,?_⟩) λu=>Bp (x:=(bu,[c],0)) rfl ?_
  |refine ifc (jV (b:=true) rfl (jV (eqS rfl rfl) (jV (inC rfl rfl) (eqS rfl rfl)))) (λh=>⟨(eX,[_],2),rfl,?_⟩) λy=>ifc (b:=false) rfl nofun λu=>Bp (x:=(bu,[c],0)) rfl ?_
  |refine ifc (b:=false) rfl nofun λy=>ifc (b:=false) rfl nofun λu=>Bp (x:=(bu,[c],0)) rfl ?_
  | skip
 all_goals
  clear hs m C
  simp only[List.take_succ_cons,List.take_nil,List.take_zero,QCh,QBV,QCq,QCC,decide_eq_true_eq,decide_eq_false_iff_not,List.cons.injEq,and_true,zD,Bool.true_and] at *
  grind [one,dF,jN,iJ,iI,jP]
def one_le(c:Nat)(r:List Nat):(one c r).2.2<=r.length:=by
 unfold one
 split
 ·simp
 split
 ·simp
 split
 ·unfold dF
  cases r with
  |nil=>simp
  |cons d r =>
   dsimp
   split
   ·simp
   split
   ·simp
   split
   ·unfold jN
    grind
   split
   ·unfold iJ
    cases r with
    |nil=>simp
    |cons  =>
     dsimp
     split
     ·unfold iI
      grind
     ·simp
   ·simp
 ·simp
def QnQ(t:List Nat)(F:t.length<=5000)(O:au):Ag [.str t] O=.ok (.lst (items 0 t)) O:=by
 obtain⟨E,f,e,rfl,pre,d,u,m,rfl,h1,h2,h3,h4⟩:=Ir (t:=az (ak gLt (aa 2) (aU bc (aj (aa 0) ao))))
  (b:=aq (pY (aC uY (aj (aa 0) (aj (aa 2) ao))) (cW 2 (bB (mgN 3) (bB (mgN 4) dC)))) (aq (eG 1 (aa 3)) (aB 2 (ak aH (aa 2) (aa 4)))))
  (λk ρ f=>f=O/\∃(pre:List D) (d:Nat) (u m:Option D),ρ=[some (.str t),some (.lst pre),some (.int d),u,m]/\d<=t.length/\k=t.length - d/\pre++items d (t.drop d)=items 0 t/\pre.length<=d)
  wF t.length [some (.str t),some (.lst []),some (.int 0),none,none] O (by unfold wF;omega) ⟨rfl,[],0,none,none,rfl,Nat.zero_le _,by omega,by simp,by simp⟩ (by
   rintro k ρ f ⟨rfl,pre,d,u,m,rfl,h1,h2,h3,h4⟩
   have x:t.length<=1000000:=by omega
   have j:d<t.length:=by omega
   refine⟨by simp[x,j],?_⟩
   cases hd:t.drop d with
   |nil =>
    simp_all
   |cons c r =>
    have y:=congrArg List.length hd;simp at y;have G:=one_le c r;have C:=Qpw t x d c r hd f;refine⟨t.length - (d+((one c r).2.2+1)),[some (.str t),some (.lst (pre++[item d (one c r).1 (one c r).2.1])),some _,some (item d (one c r).1 (one c r).2.1),some (.int ((one c r).2.2+1:Nat))],f,by omega,?_,rfl,_,_,_,_,rfl,by omega,rfl,?_,?_⟩
    ·rw[eV,QxU];simp only[oE,jJ,mJ,gb,jp,jr,aL,C];rw[Qy8 QCp];simp only[jK,eV,yj,gb,List.set_cons_succ,List.set_cons_zero,jp,jr];rw[ym (ds:=pre) rfl (by omega)];simp
    ·rw[hd,jO] at h3;rw[<-h3,zB];congr 1
     have:t.drop (d+((one c r).2.2+1))=r.drop (one c r).2.2:=by
      rw[<-List.drop_drop,hd,Nat.add_comm,<-List.drop_drop];rfl
     rw[this];simp
    ·simp
     omega) (by
   rintro ρ f ⟨rfl,pre,d,u,m,rfl,h1,h2,h3,h4⟩
   have x:t.length<=1000000:=by omega
   have j:t.length<=d:=by omega
   simp[x,j])
 have hd:t.drop d=[]:=List.drop_eq_nil_of_le (by omega);rw[hd,gD,zG] at h3;subst h3;show aY (iG (kj wF _ _ [some (.str t),some (.lst []),some (.int 0),none,none] f) _)=_;unfold kj;rw[e];rfl
theorem LK:∀(a:List Nat) (h:List Nat) (p:Int) (b:List Nat),aZ h p (a++b)=((aZ h p a).1++(aZ (aZ h p a).2 (p+a.length) b).1,(aZ (aZ h p a).2 (p+a.length) b).2)
 | [],h,p,b=>by simp[aZ]
 |c::a,h,p,b=>by
  have e:p+1+a.length=p+(c::a).length:=by simp;omega
  simp  [aZ]
  rw[LK,e];simp
abbrev LT:=Nat×Nat×Nat×Int
def dL(x:LT):D:=.tup [.str [x.1],.str [x.2.1],.str [x.2.2.1],.int x.2.2.2]
def OkL(x:LT):Prop:=(32<=x.1/\x.1<=125)/\col x.2.1=true/\col x.2.2.1=true
def bC:List Nat:=[119,104,111,108,101]
def cj:List Nat:=[109,111,114,101]
def mkO(M:Int)(d:List Nat)(n:Nat)(i g:Nat)(st:Bool):Ob:=.ins "Maker" [("most",.int M),("last_word",.str d),("letters",.ob n),("pair",.tup [.str [i],.str [g]]),("stale",.bl st)]
def fM{M:Int}{st:Bool}(e:O[o]?=some (mkO M d n i g st)):dR ["Maker"] "most" (.ob o) O=.ok (.int M) O:=by
 unfold dR;dsimp ;rw[e];rfl
def fW{M:Int}{st:Bool}(e:O[o]?=some (mkO M d n i g st)):dR ["Maker"] "last_word" (.ob o) O=.ok (.str d) O:=by
 unfold dR;dsimp ;rw[e];rfl
def fL{M:Int}{st:Bool}(e:O[o]?=some (mkO M d n i g st)):dR ["Maker"] "letters" (.ob o) O=.ok (.ob n) O:=by
 unfold dR;dsimp ;rw[e];rfl
def fP{M:Int}{st:Bool}(e:O[o]?=some (mkO M d n i g st)):dR ["Maker"] "pair" (.ob o) O=.ok (.tup [.str [i],.str [g]]) O:=by
 unfold dR;dsimp ;rw[e];rfl
def fS{M:Int}{st:Bool}(e:O[o]?=some (mkO M d n i g st)):dR ["Maker"] "stale" (.ob o) O=.ok (.bl st) O:=by
 unfold dR;dsimp ;rw[e];rfl
def pW{M:Int}{st:Bool}   (e:O[o]?=some (mkO M d n i g st)):puF ["Maker"] "last_word" (.str w) ρ (.ok (.ob o) O)=.nx ρ (O.set o (mkO M w n i g st)):=by
 unfold puF;dsimp ;rw[e];rfl
def pL{M:Int}{st:Bool}   (e:O[o]?=some (mkO M d n i g st)):puF ["Maker"] "letters" (.ob m) ρ (.ok (.ob o) O)=.nx ρ (O.set o (mkO M d m i g st)):=by
 unfold puF;dsimp ;rw[e];rfl
def pP{M:Int}{st:Bool}   (e:O[o]?=some (mkO M d n i g st)):puF ["Maker"] "pair" (.tup [.str [f],.str [g']]) ρ (.ok (.ob o) O)=.nx ρ (O.set o (mkO M d n f g' st)):=by
 unfold puF;dsimp ;rw[e];rfl
def pS{M:Int}{st:Bool}   (e:O[o]?=some (mkO M d n i g st)):puF ["Maker"] "stale" (.bl b) ρ (.ok (.ob o) O)=.nx ρ (O.set o (mkO M d n i g b)):=by
 unfold puF;dsimp ;rw[e];rfl
def gs'{O:au}  (e:O[o]?=some x):(O.set o y)[o]?=some y:=by
 obtain⟨h⟩:=zu.mp e;simp[h]
def ap1{O:au}{o:Nat}  (e:O[o]?=some x):(O++[y])[o]?=some x:=by
 rw[zF (zu.mp e).1];exact e
def apN{O:au} :(O++[y])[O.length]?=some y:=by simp
@[simp] theorem QEA  :mMl m ρ O=(m ρ O).bind λd f=>match d with
 | .lst ds=>.ok (.ob f.length) (f++[.ml ds])
 |d=>.ok d f:=rfl
def Bq{M:Int}{st:Bool}  (e:O[o]?=some (mkO M j n i g st)):oR [.ob o,.str w] O=.ok (.lst [.tup [.ob n,.str w]]) ((O++[Ob.ml []]).set o (mkO M w O.length i g st)):=by
 have d:(O++[Ob.ml []])[o]?=some _:=ap1 e;have f:((O++[Ob.ml []]).set o _)[o]?=some (mkO M j O.length i g st):=gs' d;simp[oR,JG,fL e,pL d,pW f]
def Qvp{M:Int}{st:Bool}(e:O[o]?=some (mkO M lw n i g st)):mQ [.ob o] O=.ok .non (if st=true then(O++[Ob.ml []]).set o (mkO M lw O.length i g false) else O):=by
 have d:(O++[Ob.ml []])[o]?=some _:=ap1 e;have f:((O++[Ob.ml []]).set o (mkO M lw O.length i g st))[o]?=some _:=gs' d
 cases st with
 |true=>simp[mQ,yC,fS e,pL d,pS f]
 |false=>simp[mQ,yC,fS e]
def Br     (h1:mo ρ O=.ok (.ob n) O)(h2:O[n]?=some (.ml ds))(h3:m ρ O=.ok d O)(h4:ds.length<1000000):nY mo m ρ O=.nx ρ (O.set n (.ml (ds++[d]))):=by
 unfold nY
 grind
def lF  (h:O[n]?=some (.ml ds)):aV O (.ob n)=.lst ds:=by
 unfold aV
 dsimp
 rw[h]
structure Sta where
 row:List LT
 st:Bool
 i:Nat
 g:Nat
structure OkS(M:Int)(s:Sta):Prop where
 len:(s.row.length:Int)<=M
 ok:∀x∈s.row,OkL x
 i:col s.i=true
 g:col s.g=true
def Mk(O:au)(o:Nat)(M:Int)(d:List Nat)(s:Sta):Prop:=∃n,O[o]?=some (mkO M d n s.i s.g s.st)/\O[n]?=some (.ml (s.row.map dL))
def Prt(O:au)(told:List D)(due:List (List LT×List Nat)):Prop:=(told=[]/\due=[])\/∃n r w,told=[.tup [.ob n,.str w]]/\due=[(r,w)]/\O[n]?=some (.ml (r.map dL))/\(w=bC\/w=cj)/\(∀x∈r,OkL x)/\r.length<=1000
inductive Itm:List Nat->List Nat->Prop where
 | anew:Itm oJ []
 | end_:Itm jL []
 | plain:Itm jM []
 | ink (c:Nat) (h:col c=true):Itm eX [c]
 | ground (c:Nat) (h:col c=true):Itm fJ [c]
 | sign (c:Nat) (h:32<=c/\c<=125):Itm bu [c]
def bare(s:Sta):List LT:=if s.st=true then[] else s.row
def stS(M:Int)(s:Sta)(p:Int)(c:Nat):Sta:=if((bare s).length:Int)=M then⟨[(c,s.i,s.g,p)],false,s.i,s.g⟩ else⟨bare s++[(c,s.i,s.g,p)],false,s.i,s.g⟩
def jW(M:Int)(s:Sta):List (List LT×List Nat):=if((bare s).length:Int)=M then[(bare s,cj)] else[]
def stp(M:Int)(s:Sta)(p:Int)(k v:List Nat):Sta :=
 if k=oJ then⟨s.row,true,46,46⟩ else if k=jL then⟨[],false,46,46⟩ else if k=bu then stS M s p (v.headD 0) else if k=eX then⟨bare s,false,v.headD 0,s.g⟩ else if k=fJ then⟨bare s,false,s.i,v.headD 0⟩ else⟨bare s,false,46,46⟩
def due(M:Int)(s:Sta)(k:List Nat):List (List LT×List Nat):=if k=jL then[(s.row,bC)] else if k=bu then jW M s else[]
def lwS(M:Int)(s:Sta)(d k:List Nat):List Nat:=match due M s k with
 | [(_,w)]=>w
 | _=>d
@[simp] theorem QEB   :cW 3 (bB (mgN i) (bB (mgN j) (bB (mgN k) dC))) (.tup [a,b,c]) ρ=some (((ρ.set i (some a)).set j (some b)).set k (some c)):=rfl
def dH{O:au}  (e:O[o]?=some x):o<O.length:=(zu.mp e).1
def QAV{M:Int}{st:Bool}    (e:O[o]?=some (mkO M u n i g st))(f:O[n]?=some (.ml ds))(m:ds.length<1000000):
  uJ [.ob o,item p bu [c]] O=if(ds.length:Int)=M then .ok (.lst [.tup [.ob n,.str cj]]) (((O++[Ob.ml []]).set o (mkO M cj O.length i g st)).set O.length (.ml [dL (c,i,g,p)])) else .ok (.lst []) (O.set n (.ml (ds++[dL (c,i,g,p)]))):=by
 by_cases d:ds.length=M
 ·rw[if_pos d];have j:((O++[Ob.ml []]).set o (mkO M cj O.length i g st))[o]?=some _:=gs' (ap1 e)
  have t:((O++[Ob.ml []]).set o (mkO M cj O.length i g st))[O.length]?=some (.ml []):=by
   rw[zj (zp (dH e))];exact apN
  suffices h:yD _ O=.rt _ _ from congrArg aY h
  exact .trans (sq rfl) (.trans (sq (.trans (eZ (.trans (bR (aP (gW (ma1 (fL e)) (by rw[zg,lF f];rfl)) (fM e) rfl)) (by rw[zv d]))) (vd ((cU rfl e rfl rfl).trans (Bq e))))) (.trans (sq (Br (fL j) t (Km (maS rfl (maS (aP (fP j) rfl rfl) (maS (aP (fP j) rfl rfl) (ma1 rfl)))) (by simp)) (by decide))) rfl))
 ·rw[if_neg d]
  suffices h:yD _ O=.rt _ _ from congrArg aY h
  exact .trans (sq rfl) (.trans (sq (cI (.trans (bR (aP (gW (ma1 (fL e)) (by rw[zg,lF f];rfl)) (fM e) rfl)) (by rw[zq d])))) (.trans (sq (Br (fL e) f (Km (maS rfl (maS (aP (fP e) rfl rfl) (maS (aP (fP e) rfl rfl) (ma1 rfl)))) (by simp)) m)) rfl))
def QzR   (h:Itm k v)(O:au):qM [.tup [.str [i],.str [g]],.str k,.str v] O=.ok (if k=eX then .tup [.str [v.headD 0],.str [g]] else if k=fJ then .tup [.str [i],.str [v.headD 0]] else if k=bu then .tup [.str [i],.str [g]] else .tup [.str [46],.str [46]]) O:=by
 cases h<;>rfl
def LQ{M:Int}{st:Bool}  (e:O[o]?=some (mkO M m n i g st)):lA [.ob o] O=.ok .non ((O++[Ob.ml []]).set o (mkO M m O.length 46 46 false)):=by
 have d:(O++[Ob.ml []])[o]?=some _:=ap1 e;have j:((O++[Ob.ml []]).set o (mkO M m O.length i g st))[o]?=some _:=gs' d;have f:((O++[Ob.ml []]).set o (mkO M m O.length 46 46 st))[o]?=some _:=gs' d;simp[lA,uH,pL d,pP j,pS f]
def QvF{M:Int}{st:Bool}(e:O[o]?=some (mkO M d n i g st)):yE [.ob o] O=.ok (.bl (decide (d=cj))) O:=congrArg (λr=>aY (lq r)) (aP (fW e) rfl rfl)
def g8{O:au}{o:Nat}{M:Int}   {st:Bool}  (e:O[o]?=some (mkO M f m i g st))(d:O[n]?=some (.ml ds)):o≠n:=λz=>by
 rw[z,d] at e;cases e
def Prt.set   {M:Int}   {st:Bool}    (h:Prt O told du)(e:O[o]?=some (mkO M d m i g st)):Prt (O.set o x) told du:=by
 rcases h with h | ⟨n,r,w,h1,h2,h3,h4⟩
 ·exact .inl h
 ·exact .inr ⟨n,r,w,h1,h2,by rw[zj (g8 e h3)];exact h3,h4⟩
def Sep(O:au)(o:Nat)(told:List D):Prop:=∀n w,told=[.tup [.ob n,.str w]]->∀(M:Int) (d:List Nat) (m i g:Nat) (st:Bool),O[o]?=some (mkO M d m i g st)->m≠n
def Bs{M:Int}   {st:Bool}(h:mkO M j n i g st=mkO u f m t g' d):n=m:=by
 cases h;rfl
def Sep.nil  :Sep O o []:=λn w h=>nomatch h
def Sep.one{O:au}{o n:Nat}{w:List Nat}{M:Int}{f:List Nat}{m i g:Nat}{st:Bool}(e:O[o]?=some (mkO M f m i g st))(h:m≠n):Sep O o [.tup [.ob n,.str w]]:=λx u E G t y C F j d=>by
 rw[e] at d
 have:=Bs (zE d)
 grind
def Old(O:au)(o n:Nat)(ds:List D):Prop:=O[n]?=some (.ml ds)/\∀(M:Int) (d:List Nat) (m i g:Nat) (st:Bool),O[o]?=some (mkO M d m i g st)->m≠n
def Keeps(O f:au)(o:Nat):Prop:=(∀n d,Old O o n d->Old f o n d)/\∀(r:Nat) (x:Ob),r≠o->(∀d,x≠.ml d)->O[r]?=some x->f[r]?=some x
def Keeps.refl  :Keeps O O o:=⟨λ_ _ h=>h,λ_ _ _ _ h=>h⟩
def Keeps.trans   (a:Keeps O t o)(b:Keeps t m o):Keeps O m o:=⟨λn j h=>b.1 n j (a.1 n j h),λr c f d h=>b.2 r c f d (a.2 r c f d h)⟩
def oZ    {M:Int}   {st:Bool}(f:O[n]?=some (.ml ds))(e:O[o]?=some (mkO M E m i g st))(h:m≠n):Old O o n ds:=⟨f,λC t u x y j d=>by
 rw[e] at d;rw[<-Bs (zE d)]
 exact h⟩
def o9   {M:Int}   {st:Bool}(e:O[o]?=some (mkO M y n i g st))    :Keeps O ((O++[Ob.ml []]).set o (mkO E x O.length C g' u)) o:=by
 refine⟨λm t h=>?_,λr c d f h=>by grind⟩;have j:=(zu.mp h.1).1;refine oZ (by rw[zj (g8 e h.1)];exact ap1 h.1) (gs' (ap1 e)) (by omega)
def LR   {M:Int}   {st:Bool}(e:O[o]?=some (mkO M u n i g st))    :Keeps O (O.set o (mkO y t n x g' j)) o:=⟨λm ds h =>
 oZ (by rw[zj (g8 e h.1)];exact h.1) (gs' e) (h.2 _ _ _ _ _ _ e),λr c d f h=>by rw[zj (Ne.symm d)];exact h⟩
def Ma   {M:Int}   {st:Bool}  (e:O[o]?=some (mkO M x n i g st))(d:O[n]?=some (.ml u)):Keeps O (O.set n (.ml t)) o:=⟨λm ds h =>
 oZ (by rw[zj (h.2 _ _ _ _ _ _ e)];exact h.1) (by rw[zj (Ne.symm (g8 e d))];exact e) (h.2 _ _ _ _ _ _ e),λr c j f h=>by rw[zj λz=>by rw[z,h] at d;exact f _ (zE d)];exact h⟩
def QvC   {M:Int}   (h:Mk O o M lw s):∃d,mQ [.ob o] O=.ok .non d/\Mk d o M lw ⟨bare s,false,s.i,s.g⟩/\Keeps O d o:=by
 obtain⟨n,e,f⟩:=h;have q:=Qvp e
 cases hs:s.st with
 |true =>
  rw[hs,if_pos rfl] at q;refine⟨_,q,⟨O.length,gs' (ap1 e),?_⟩,o9 e⟩;rw[zj (zp (dH e))];unfold bare;rw[hs];exact apN
 |false =>
  rw[hs] at q;refine⟨_,q,⟨n,by rw[hs] at e;exact e,?_⟩,Keeps.refl⟩;unfold bare;rw[hs];exact f
def QBC   {M:Int}     (h:Mk O o M y s)(t:s.row.length<=1000)(hok:∀x∈s.row,OkL x):∃j told,uJ [.ob o,item p bu [c]] O=.ok (.lst told) j /\
  Mk j o M (if(s.row.length:Int)=M then cj else y) ⟨if(s.row.length:Int)=M then[(c,s.i,s.g,p)] else s.row++[(c,s.i,s.g,p)],s.st,s.i,s.g⟩/\Prt j told (if(s.row.length:Int)=M then[(s.row,cj)] else[])/\Sep j o told/\Keeps O j o:=by
 obtain⟨n,e,f⟩:=h;have q:=QAV (p:=p) (c:=c) e f (by grind);rw[zf] at q;have u:=dH f
 by_cases d:s.row.length=M
 ·rw[if_pos d] at q;rw[if_pos d,if_pos d,if_pos d]
  have m:(((O++[Ob.ml []]).set o (mkO M cj O.length s.i s.g s.st)).set O.length (.ml [dL (c,s.i,s.g,p)]))[o]?=some (mkO M cj O.length s.i s.g s.st):=by
   grind
  refine⟨_,_,q,⟨O.length,m,?_⟩,.inr ⟨n,s.row,cj,rfl,rfl,?_,.inr rfl,hok,t⟩,Sep.one m (by omega),(o9 e).trans (Ma (gs' (ap1 e)) (by rw[zj (zp (dH e))];exact apN))⟩
  ·simp
  ·rw[zj (by omega),zj (g8 e f)];exact ap1 f
 ·rw[if_neg d] at q;rw[if_neg d,if_neg d,if_neg d];refine⟨_,_,q,⟨n,?_,?_⟩,.inl ⟨rfl,rfl⟩,Sep.nil,Ma e f⟩
  ·rw[zj (Ne.symm (g8 e f))];exact e
  grind
def rG(s:Sta)(k v:List Nat):Nat×Nat:=if k=eX then(v.headD 0,s.g) else if k=fJ then(s.i,v.headD 0) else if k=bu then(s.i,s.g) else(46,46)
def pq   {M:Int}       (h:Mk O o M T s)(it:Itm k v)(F:Prt O told du)(f:Sep O o told):
  ∃d,(aq (bF ["Maker"] "pair" (aa 0) (aC qM (aj (bf ["Maker"] "pair" (aa 0)) (aj (aa 2) (aj (ak gIx (aa 1) (kI 2)) ao))))) (aA (aa 3))) [some (.ob o),some (item p k v),some (.str k),some (.lst told)] O=.rt (.lst told) d/\Mk d o M T ⟨s.row,s.st,(rG s k v).1,(rG s k v).2⟩/\Prt d told du/\Sep d o told/\Keeps O d o:=by
 obtain⟨n,e,m⟩:=h;have C:gIx (item p k v) (.int 2)=some _:=rfl;have j:=QzR (i:=s.i) (g:=s.g) it
 have x:(if k=eX then D.tup [.str [v.headD 0],.str [s.g]] else if k=fJ then .tup [.str [s.i],.str [v.headD 0]] else if k=bu then .tup [.str [s.i],.str [s.g]] else .tup [.str [46],.str [46]])=.tup [.str [(rG s k v).1],.str [(rG s k v).2]]:=by
  unfold rG
  split
  ·rfl
  ·split
   ·rfl
   ·split<;>rfl
 rw[x] at j;have G:aV O (item p k v)=item p k v:=rfl;refine⟨O.set o _,?_,⟨n,gs' e,by rw[zj (g8 e m)];exact m⟩,F.set e,?_,LR e⟩
 rotate_left
 ·intro y u E R J L P Q I t;rw[gs' e] at t;rw[<-Bs (zE t)];exact f y u E _ _ _ _ _ _ e
 simp only[eV,yg,oE,jJ,mJ,Ij,gb,jp,jr,aL,fP e,xY,m_c,G,jG,C,jF,j,yh,pP e,jK,dO,Hw]
def fSt   {M:Int}  {st:Bool}{ρ:aK}(e:O[o]?=some (mkO M d n i g st)):bF ["Maker"] "stale" (aa 0) (mC (.bl b)) (some (.ob o)::ρ) O=.nx (some (.ob o)::ρ) (O.set o (mkO M d n i g b)):=pS e
def QA2   {M:Int}     (h:Mk O o M lw s)(hs:OkS M s)(Y:M<=200)(it:Itm k v):∃d told,qN [.ob o,item p k v] O=.ok (.lst told) d/\Mk d o M (lwS M s lw k) (stp M s p k v)/\Prt d told (due M s k)/\Sep d o told/\Keeps O d o:=by
 have hlen:=hs.len
 have J:s.row.length<=1000:=by omega
 have P:∀x∈bare s,OkL x:=λx hx=>by
  unfold bare at hx;split at hx
  ·cases hx
  ·exact hs.ok x hx
 have I:(bare s).length<=1000:=by
  unfold bare
  split
  ·simp
  ·exact J
 obtain⟨n,e,C⟩:=id h;obtain⟨O1,L,h1,E⟩:=QvC h
 have G:=λρ=>(cU (ρ:=some (.ob o)::ρ) (m:="empty_stale") (cf:=mQ) (mo:=aa 0) (ma:=ao) rfl e rfl rfl).trans L
 have fin:∀{told:List D}{d:au},JH [some (.ob o),some (item p k v),none,none] O=.rt (.lst told) d->qN [.ob o,item p k v] O=.ok (.lst told) d:=λh=>congrArg aY h
 cases it with
 |anew =>
  have h2:Mk (O.set o (mkO M lw n s.i s.g true)) o M lw ⟨s.row,true,s.i,s.g⟩:=⟨n,gs' e,by rw[zj (g8 e C)];exact C⟩;obtain⟨d,t1,t2,t,j,f⟩:=pq (p:=p) (told:=[]) (du:=[]) h2 Itm.anew (.inl ⟨rfl,rfl⟩) Sep.nil;exact⟨d,[],fin (.trans (sq rfl) (.trans (sq rfl) (.trans (sq (.trans (cI rfl) (.trans (eZ rfl) (fSt e)))) (.trans (sq (cI rfl)) t1)))),t2,t,j,(LR e).trans f⟩
 |end_ =>
  have F:=fSt (b:=false) (ρ:=[some (item p jL []),some (.str jL),some (.lst [.tup [.ob n,.str bC]])]) (gs' (O:=O++[.ml []]) (y:=mkO M bC O.length s.i s.g s.st) (ap1 e));have h2:Mk _ o M bC ⟨[],false,s.i,s.g⟩:=⟨O.length,gs' (ap1 e),by rw[zj (zp (dH e))];exact apN⟩;obtain⟨d,t1,t2,t,j,f⟩:=pq (p:=p) (told:=[.tup [.ob n,.str bC]]) (du:=[(s.row,bC)]) h2 Itm.end_ (.inr ⟨n,s.row,bC,rfl,rfl,by rw[zj (g8 e C)];exact ap1 C,.inl rfl,hs.ok,J⟩) (Sep.one (gs' (ap1 e)) (Nat.ne_of_gt (dH C)));rw[List.set_set] at F;exact⟨d,[.tup [.ob n,.str bC]],fin (.trans (sq rfl) (.trans (sq rfl) (.trans (sq (.trans (eZ rfl) (.trans (sq (vd ((cU rfl e rfl rfl).trans (Bq (w:=bC) e)))) F))) (.trans (sq (cI rfl)) t1)))),t2,t,j,(o9 e).trans f⟩
 |plain =>
  obtain⟨d,t1,t2,t,j,f⟩:=pq (p:=p) (told:=[]) (du:=[]) h1 Itm.plain (.inl ⟨rfl,rfl⟩) Sep.nil;exact⟨d,[],fin (.trans (sq rfl) (.trans (sq rfl) (.trans (sq (.trans (cI rfl) (.trans (cI rfl) (drp (G _))))) (.trans (sq (cI rfl)) t1)))),t2,t,j,E.trans f⟩
 |ink c hc =>
  obtain⟨d,t1,t2,t,j,f⟩:=pq (p:=p) (told:=[]) (du:=[]) h1 (Itm.ink c hc) (.inl ⟨rfl,rfl⟩) Sep.nil;exact⟨d,[],fin (.trans (sq rfl) (.trans (sq rfl) (.trans (sq (.trans (cI rfl) (.trans (cI rfl) (drp (G _))))) (.trans (sq (cI rfl)) t1)))),t2,t,j,E.trans f⟩
 |ground c hc =>
  obtain⟨d,t1,t2,t,j,f⟩:=pq (p:=p) (told:=[]) (du:=[]) h1 (Itm.ground c hc) (.inl ⟨rfl,rfl⟩) Sep.nil;exact⟨d,[],fin (.trans (sq rfl) (.trans (sq rfl) (.trans (sq (.trans (cI rfl) (.trans (cI rfl) (drp (G _))))) (.trans (sq (cI rfl)) t1)))),t2,t,j,E.trans f⟩
 |sign c hc =>
  obtain⟨Z,told,a1,a2,W,U,T⟩:=QBC (p:=p) (c:=c) h1 I P;obtain⟨d,t1,t2,t,j,f⟩:=pq (p:=p) a2 (Itm.sign c hc) W U;obtain⟨X,F,_⟩:=id h1;refine⟨d,told,fin (.trans (sq rfl) (.trans (sq rfl) (.trans (sq (.trans (cI rfl) (.trans (cI rfl) (drp (G _))))) (.trans (sq (.trans (eZ rfl) (vd ((cU rfl F rfl rfl).trans a1)))) t1)))),?_,?_,j,(E.trans T).trans f⟩
  ·have R:stp M s p bu [c]=stS M s p c:=rfl
   have Q:lwS M s lw bu=if((bare s).length:Int)=M then cj else lw:=by
    show(match jW M s with | [(_,w)]=>w | _=>lw)=_;unfold jW
    by_cases u:((bare s).length:Int)=M
    ·rw[if_pos u,if_pos u]
    ·rw[if_neg u,if_neg u]
   rw[R,Q];have t2' :=t2;unfold stS
   by_cases u:((bare s).length:Int)=M
   ·rw[if_pos u,if_pos u] at t2' ⊢;exact t2'
   ·rw[if_neg u,if_neg u] at t2' ⊢;exact t2'
  ·have d3:due M s bu=jW M s:=rfl;rw[d3];unfold jW;exact t
def OkS.stp{M:Int}  (h:OkS M s)(m:1<=M)   (it:Itm k v):OkS M (stp M s p k v):=by
 have j:∀x∈bare s,OkL x:=λx hx=>by
  unfold bare at hx;split at hx
  ·cases hx
  ·exact h.ok x hx
 have d:(bare s).length<=M:=by
  unfold bare
  split
  ·simp;omega
  ·exact h.len
 cases it with
 |anew=>exact⟨h.len,h.ok,(rfl),(rfl)⟩
 |end_=>exact⟨(show 0<=M by omega),(λx hx=>nomatch hx),(rfl),(rfl)⟩
 |plain=>exact⟨d,j,(rfl),(rfl)⟩
 |ink c f=>exact⟨d,j,f,h.g⟩
 |ground c f=>exact⟨d,j,h.i,f⟩
 |sign c f =>
  show OkS M (stS M s p c);unfold stS
  split
  ·refine⟨by omega,?_,h.i,h.g⟩;intro x hx;rw[zh.mp hx];exact⟨f,h.i,h.g⟩
  ·refine⟨by simp  ;omega,?_,h.i,h.g⟩;intro x hx
   rcases zx.mp hx with hx | hx
   ·exact j x hx
   ·rw[zh.mp hx];exact⟨f,h.i,h.g⟩
def ixS   (f:l.length<=1000000)(h:(l.length:Int)=n)(d:0<n):∃c,c∈l/\gIx (.str l) (.int (v % n))=some (.str [c]):=by
 obtain⟨c,h1,h2⟩:=HR (i:=v % n) (js _ (by omega)) (by rw[h];exact ju _ d);exact⟨c,h2,by rw[HN,if_pos f,h1];rfl⟩
def ixL   (h:(l.length:Int)=n)(d:0<n):∃c,c∈l/\gIx (.lst l) (.int (v % n))=some c:=by
 obtain⟨c,h1,h2⟩:=HR (i:=v % n) (js _ (by omega)) (by rw[h];exact ju _ d);exact⟨c,h2,h1⟩
def QAB(n k:Int)(h0:0<=k)(h1:k<=1000000)(O:au):cT [.int n,.int k] O=.ok (.int (mix n k)) O:=QyG n k h0 h1 O
abbrev It3:=Int×List Nat×List Nat
def itD(x:It3):D:=item x.1 x.2.1 x.2.2
def pG       (e:O[o]?=some (.ins "Maker" fs))(h:fs.length<900):puF ["Maker"] f d ρ (.ok (.ob o) O)=.nx ρ (O.set o (.ins "Maker" (putD f d fs))):=by
 unfold puF
 dsimp
 rw[e]
 dsimp
 rw[if_pos ⟨by simp,h⟩]
def QtE   {M:Int}  (e:O[o]?=some (.ins "Maker" [("most",.int M),("last_word",.str E)])):lA [.ob o] O=.ok .non ((O++[Ob.ml []]).set o (mkO M E O.length 46 46 false)):=by
 have j:(O++[Ob.ml []])[o]?=some _:=ap1 e
 have u:=λρ=>pG (f:="letters") (d:=.ob O.length) (ρ:=ρ) j (by simp)
 have C:=gs' (y:=.ins "Maker" (putD "letters" (.ob O.length) [("most",.int M),("last_word",.str E)])) j
 have t:=λρ=>pG (f:="pair") (d:=.tup [.str [46],.str [46]]) (ρ:=ρ) C (by show 3<900;decide)
 have x:=gs' (y:=.ins "Maker" (putD "pair" (.tup [.str [46],.str [46]]) (putD "letters" (.ob O.length) [("most",.int M),("last_word",.str E)]))) j
 have m:=λρ=>pG (f:="stale") (d:=.bl false) (ρ:=ρ) x (by show 4<900;decide)
 have fe:Ob.ins _ (putD "stale" _ (putD "pair" _ (putD "letters" _ [("most",.int M),("last_word",.str E)])))=mkO M E O.length 46 46 false:=rfl;rw[fe] at m;show aY (uH [some _] O)=_;unfold uH;simp  [u,t,m,Hz]
def Qux(M:Int)(h:1<=M/\M<=200)(O:au):uG [.int M,.int 1,.int 200] O=.ok (.bl true) O:=by
 simp[uG,JD,yw,JC,h]
def Qz8(M:Int)(h:1<=M/\M<=200)(O:au)(ρ:aK)(C:∀O,aa 2 ρ O=.ok (.int M) O):∃j n,dh "Maker" uI (aj (aa 2) ao) ρ O=.ok (.ob O.length) j/\j[O.length]?=some (mkO M bC n 46 46 false)/\j[n]?=some (.ml [])/\O.length<n/\∀(m:Nat) (x:Ob),O[m]?=some x->j[m]?=some x:=by
 have G:(O++[Ob.ins "Maker" []])[O.length]?=some _:=apN
 have J:=λρ=>pG (f:="most") (d:=.int M) (ρ:=ρ) G (by decide)
 have F:=gs' (y:=.ins "Maker" (putD "most" (.int M) [])) G
 have I:=λρ=>pG (f:="last_word") (d:=.str bC) (ρ:=ρ) F (by show 1<900;decide)
 have u:(((O++[Ob.ins _ []]).set _ _).set _ (.ins "Maker" (putD "last_word" (.str bC) (putD "most" (.int M) []))))[O.length]?=some _:=gs' F;have Q:=QtE u
 have P:∀(j ) (a1 ),j[O.length]?=some (.ins "Maker" [("most",.int M),("last_word",.str bC)])->(aQ "Maker" "begin_row" lA (aa 0) ao) [some (.ob _),a1] j=lA _ j:=λj a1 L=>by
  rw[uA];simp  [gb,jp,aL];unfold meF
  dsimp
  rw[L];rfl
 have E:uI [.ob O.length,.int M] (O++[Ob.ins "Maker" []])=.ok .non ((((O++[Ob.ins "Maker" []]).set O.length (.ins "Maker" (putD "most" (.int M) []))).set O.length (.ins "Maker" (putD "last_word" (.str bC) (putD "most" (.int M) [])))++[Ob.ml []]).set O.length (mkO M bC (((O++[Ob.ins "Maker" []]).set O.length (.ins "Maker" (putD "most" (.int M) []))).set O.length (.ins "Maker" (putD "last_word" (.str bC) (putD "most" (.int M) [])))).length 46 46 false)):=by
  show aY (yx [some _,some _] _)=_;unfold yx;have p1':∀ρ,puF _ _ (.str [119,104,111,108,101]) ρ _=_:=I;simp only[eV,lr,mH,jH,oE,jJ,mJ,gb,m_c,jp,jr,aL,Qux M h,mz,mF,oA,Bool.not_true,uw,Bool.false_eq_true,if_false,Hv,jK,yg,m_g,Qzl,yh,J,p1',qx,P _ _ u,Q,uv,Hz]
 obtain⟨j,t⟩:∃j,j=(((O++[Ob.ins "Maker" []]).set O.length (.ins "Maker" (putD "most" (.int M) []))).set O.length (.ins "Maker" (putD "last_word" (.str bC) (putD "most" (.int M) [])))++[Ob.ml []]).set O.length (mkO M bC (((O++[Ob.ins "Maker" []]).set O.length (.ins "Maker" (putD "most" (.int M) []))).set O.length (.ins "Maker" (putD "last_word" (.str bC) (putD "most" (.int M) [])))).length 46 46 false):=⟨_,rfl⟩;rw[<-t] at E;refine⟨j,_,?_,by rw[t];exact gs' (ap1 u),?_,by simp,λm x hx=>?_⟩
 ·rw[Ik];simp only[jJ,mJ,C,aL,E,Il]
 ·rw[t,zj (by simp)];exact apN
 ·have R:=(zu.mp hx).1;rw[t,zj (by omega),zF (by simp;omega),zj (by omega),zj (by omega)];exact ap1 hx
def QwN   (h:∀x∈c::r,(32<=x/\x<=125)\/x=10\/x=9):Itm (one c r).1 (one c r).2.1:=by
 have j:=h c zd;have f :=Itm.sign 91 (by decide);unfold one
 split
 ·exact Itm.end_
 split
 ·exact Itm.anew
 split
 ·unfold dF
  cases r with
  |nil=>exact f
  |cons d r =>
   dsimp
   split
   ·exact Itm.plain
   split
   ·exact f
   split
   ·unfold jN
    cases r with
    |nil=>exact f
    |cons  =>
     dsimp
     split
     ·exact Itm.ink d (by assumption)
     ·exact f
   split
   ·unfold iJ
    cases r with
    |nil=>exact f
    |cons e r =>
     dsimp
     split
     ·unfold iI
      cases r with
      |nil=>exact f
      |cons  =>
       dsimp
       split
       ·exact Itm.ground e (by assumption)
       ·exact f
     ·exact f
   ·exact f
 ·exact Itm.sign c (by omega)
theorem Bt:∀(n:Nat) (t:List Nat) (p:Int),t.length<=n->(∀c∈t,(32<=c/\c<=125)\/c=10\/c=9)->∃d:List It3,items p t=d.map itD/\(∀x∈d,Itm x.2.1 x.2.2)/\d.length<=t.length
 | 0,[],p,_,_=>⟨[],by rw[gD];rfl,by simp⟩
 | 0,c::t,p,h,_=>by simp at h
 |n+1,[],p,_,_=>⟨[],by rw[gD];rfl,by simp⟩
 |n+1,c::t,p,h,hc=>by
  simp   at h
  obtain⟨d,e,j,f⟩:=Bt n (t.drop (one c t).2.2) _ (by rw[List.length_drop];omega) λx hx=>hc x (zm _ (List.mem_of_mem_drop hx))
  refine⟨(p,(one c t).1,(one c t).2.1)::d,by rw[jO,e];rfl,λx hx=>?_,by rw[List.length_drop] at f;simp  ;omega⟩
  rcases zk.mp hx with rfl | hx
  ·exact QwN hc
  ·exact j x hx
abbrev Du:=List LT×List Nat
def rn(M:Int):Sta->List It3->Sta×List Du
 |s,[]=>(s,[])
 |s,x::xs=>((rn M (stp M s x.1 x.2.1 x.2.2) xs).1,due M s x.2.1++(rn M (stp M s x.1 x.2.1 x.2.2) xs).2)
def s0:Sta:=⟨[],false,46,46⟩
def vB{M:Int}(h:1<=M):OkS M s0:=⟨(show 0<=M by omega),(λx hx=>nomatch hx),(rfl),(rfl)⟩
def Bu(M:Int)(s:Sta)(k:List Nat):(due M s k).length<=1:=by
 unfold due jW
 split
 ·simp
 ·split
  ·split<;>simp
  ·simp
theorem iR{M:Int}(f:1<=M):∀(d:List It3) (s:Sta),OkS M s->(∀x∈d,Itm x.2.1 x.2.2)->OkS M (rn M s d).1/\(rn M s d).2.length<=d.length
 | [],s,h,_=>⟨h,zc _⟩
 |x::xs,s,h,hi=>by
  obtain⟨a⟩:=iR f xs _ (h.stp f (hi x zd)) λy j=>hi y (zm _ j)
  have:=Bu M s x.2.1
  refine⟨a,?_⟩;simp  [rn,zw];omega
def cO{b:MS}    (h:b ρ O=.rt d f):aY (b ρ O)=.ok d f:=by rw[h];rfl
def QBf{M:Int}  (h:OkS M s)(k:List Nat):∀x∈due M s k,(x.1.length:Int)<=M:=by
 intro x hx;unfold due jW at hx;split at hx
 ·rw[zh.mp hx];exact h.len
 ·split at hx
  ·split at hx
   ·rename_i d;rw[zh.mp hx];exact Int.le_of_eq d
   ·cases hx
  ·cases hx
theorem vC{M:Int}(f:1<=M):∀(d:List It3) (s:Sta),OkS M s->(∀x∈d,Itm x.2.1 x.2.2)->∀x∈(rn M s d).2,(x.1.length:Int)<=M
 | [],s,_,_,x,hx=>nomatch hx
 |y::d,s,h,hi,x,hx=>by
  have hx' :=hx
  rcases zx.mp hx' with hx | hx
  ·exact QBf h _ x hx
  ·exact vC f _ _ (h.stp f (hi y zd)) (λz j=>hi z (zm _ j)) x hx
theorem pA(M:Int):∀(a b:List It3) (s:Sta),rn M s (a++b)=((rn M (rn M s a).1 b).1,(rn M s a).2++(rn M (rn M s a).1 b).2)
 | [],b,s=>rfl
 |x::a,b,s=>by
  show((rn M _ (a++b)).1,due M s _++(rn M _ (a++b)).2)=_;rw[pA ];show _=(_,due M s _++_++_);rw[zB];rfl
def lwO(d:List Nat)(ds:List Du):List Nat:=(ds.map (·.2)).getLastD d
def Bv(d:List Nat)(a b:List Du):lwO d (a++b)=lwO (lwO d a) b:=by
 unfold lwO
 cases b with
 | nil
 |cons =>simp
def QAu(M:Int)(s:Sta)(f k:List Nat):lwS M s f k=lwO f (due M s k):=by
 have j:=Bu M s k;unfold lwS lwO
 generalize due M s k=d at *
 match d,j with
 | [],_=>rfl
 | [_],_=>rfl
 | _::_::_,h=>simp at h
def unI:D->It3
 | .tup [.int p,.str k,.str v]=>(p,k,v)
 | _=>(0,[],[])
def Bw(l:List It3):(l.map itD).map unI=l:=by
 rw[zO]
 exact List.map_id' _ |>.symm ▸ zY λ_ _=>rfl
def sI(t:List Nat):List It3:=(aZ [] 0 t).1.map unI
def hI(t:List Nat):List It3:=(owns (t.length - (aZ [] 0 t).2.length) (aZ [] 0 t).2).map unI
structure SI(t:List Nat):Prop where
 s:(aZ [] 0 t).1=(sI t).map itD
 h:owns (t.length - (aZ [] 0 t).2.length) (aZ [] 0 t).2=(hI t).map itD
 i:∀x∈sI t++hI t,Itm x.2.1 x.2.2
 l:(sI t++hI t).length<=t.length
 a:items 0 t=(sI t++hI t).map itD
 H:bA (aZ [] 0 t).2
def si  (u:Okt t):SI t:=by
 obtain⟨E,e,y,x⟩:=Bt _ t 0 (zc _) λc C=>by have:=u.ok c C;omega
 obtain⟨H,q⟩:=Iw t;have e':=e;rw[q] at e';obtain⟨a,b,rfl,m,j⟩:=List.map_eq_append_iff.mp e'.symm
 have f:sI t=a:=by unfold sI;rw[<-m,Bw]
 have d:hI t=b:=by unfold hI;rw[<-j,Bw]
 refine⟨by rw[f,m],by rw[d,j],?_,?_,?_,H⟩
 all_goals rw[f,d]
 ·exact y
 ·exact x
 ·exact e
def jI(t p:List Nat):List It3:=(aZ (aZ [] 0 t).2 (t.length) p).1.map unI
def Bx  (h:Okt (t++p)):sI (t++p)=sI t++jI t p/\(aZ (aZ [] 0 t).2 (t.length) p).1=(jI t p).map itD/\(aZ [] 0 (t++p)).2=(aZ (aZ [] 0 t).2 (t.length) p).2:=by
 have e:=LK t [] 0;rw[Int.zero_add] at e
 have f:sI (t++p)=sI t++jI t p:=by unfold sI jI;rw[e,zM]
 have q:=(si h).s;rw[e] at q;refine⟨f,?_,by rw[e]⟩;obtain⟨a,b,m,j,d⟩:=List.map_eq_append_iff.mp q.symm
 have:jI t p=b:=by unfold jI;rw[<-d,Bw]
 rw[this,d]
def iT(x:List LT×List Nat):Prop:=(∀y∈x.1,OkL y)/\(x.2=bC\/x.2=cj)
def TD(O:au)(o:Nat):List D->List Du->Prop
 | [],[]=>True
 |d::T,x::Ds=>(∃n,d=.tup [.ob n,.str x.2]/\Old O o n (x.1.map dL))/\iT x/\TD O o T Ds
 | _,_=>False
theorem TD.keeps   (k:Keeps O O' o):∀{T:List D}{f:List Du},TD O o T f->TD O' o T f
 | [],[],_=>True.intro
 |d::T,x::f,h=>by
  obtain⟨⟨n,e,m⟩,t,j⟩:=h;exact⟨⟨n,e,k.1 n _ m⟩,t,TD.keeps k j⟩
 | [],_::_,h=>h.elim
 | _::_,[],h=>h.elim
theorem TD.app     (h':TD O o T' Ds'):∀{T:List D}{f:List Du},TD O o T f->TD O o (T++T') (f++Ds')
 | [],[],_=>h'
 |d::T,x::f,h=>⟨h.1,h.2.1,TD.app h' h.2.2⟩
 | [],_::_,h=>h.elim
 | _::_,[],h=>h.elim
theorem TD.len  :∀{T:List D}{f:List Du},TD O o T f->T.length=f.length
 | [],[],_=>rfl
 |d::T,x::f,h=>by simp[TD.len h.2.2]
 | [],_::_,h=>h.elim
 | _::_,[],h=>h.elim
def Qxv   {M:Int}    {du:List Du}(m:Mk O o M f s)(p:Prt O told du)(sp:Sep O o told):TD O o told du:=by
 rcases p with⟨rfl,rfl⟩ | ⟨n,r,w,rfl,rfl,h3,h4,d,_⟩
 ·exact True.intro
 ·obtain⟨k,e,_⟩:=m;exact⟨⟨n,rfl,oZ h3 e (sp n w rfl _ _ _ _ _ _ e)⟩,⟨d,h4⟩,True.intro⟩
def TE(O:au):List D->List Du->Prop
 | [],[]=>True
 |d::T,x::Ds=>(∃n,d=.tup [.ob n,.str x.2]/\O[n]?=some (.ml (x.1.map dL)))/\iT x/\TE O T Ds
 | _,_=>False
theorem TD.te  :∀{T:List D}{f:List Du},TD O o T f->TE O T f
 | [],[],_=>True.intro
 |d::T,x::f,h=>by
  obtain⟨⟨n,e,m⟩,t,j⟩:=h;exact⟨⟨n,e,m.1⟩,t,TD.te j⟩
 | [],_::_,h=>h.elim
 | _::_,[],h=>h.elim
def QsP   {M:Int}   (h:Mk O o M G s)(hok:∀x∈s.row,OkL x)(F:s.row.length<=1000):∃u told,yF [.ob o] O=.ok (.lst told) u/\Mk u o M (if s.row≠[]\/G=cj then bC else G) ⟨[],false,46,46⟩/\Prt u told (if s.row≠[]\/G=cj then[(s.row,bC)] else[])/\Keeps O u o:=by
 obtain⟨n,e,y⟩:=h;have E:(cC (az (ak gGt (aU bc (aj (bf _ _ (aa 0)) _)) (kI 0))) (bK (aQ _ "going_on" _ (aa 0) ao))) [some _] O=.ok (decide (s.row≠[]\/G=cj)) O :=
  (orb (b:=decide (s.row≠[])) (.trans (bR (aP (gW (ma1 (fL e)) (by rw[zg,lF y];rfl)) rfl rfl)) (by cases s.row<;>simp)) (v9 ((cU rfl e rfl rfl).trans (QvF e)))).trans (by rw[Bool.decide_or])
 by_cases f:s.row≠[]\/G=cj
 ·rw[if_pos f,if_pos f];have C:=Bq (w:=bC) e;obtain⟨m,d⟩:∃m,m=(O++[Ob.ml []]).set o (mkO M bC O.length s.i s.g s.st):=⟨_,rfl⟩
  have j:m[o]?=some (mkO M bC O.length s.i s.g s.st):=by rw[d];exact gs' (ap1 e)
  have t:m[n]?=some (.ml (s.row.map dL)):=by rw[d,zj (g8 e y)];exact ap1 y
  rw[<-d] at C;exact⟨(m++[Ob.ml []]).set o _,[.tup _],cO (.trans (sq rfl) (.trans (sq (.trans (eZ (E.trans (by rw[zv f]))) (vd ((cU rfl e rfl rfl).trans C)))) (.trans (sq (drp ((cU rfl j rfl rfl).trans (LQ j)))) rfl))),⟨m.length,gs' (ap1 j),by rw[zj (zp (dH j))];exact apN⟩,.inr ⟨n,s.row,bC,rfl,rfl,by rw[zj (g8 j t)];exact ap1 t,.inl rfl,hok,F⟩,(d ▸ o9 e).trans (o9 j)⟩
 ·rw[if_neg f,if_neg f];exact⟨(O++[Ob.ml []]).set o _,[],cO (.trans (sq rfl) (.trans (sq (cI (E.trans (by rw[zq f])))) (.trans (sq (drp ((cU rfl e rfl rfl).trans (LQ e)))) rfl))),⟨O.length,gs' (ap1 e),by rw[zj (zp (dH e))];exact apN⟩,.inl ⟨rfl,rfl⟩,o9 e⟩
def dI          (d:mo ρ O=.ok (.ob n) u)(t:u[n]?=some (.ins c fs))(f:(fs.lookup m).isNone=true)(j:ma ρ u=.ok ds x):
  aQ c m cf mo ma ρ O=cf (.ob n::ds) x:=by
 rw[uA,d];unfold meF
 dsimp
 rw[t]
 dsimp
 rw[if_pos ⟨rfl,f⟩,j,aL]
def Mf      (h:m ρ O=.ok (.lst es) j)(f:ρ[i]?=some (some (.lst ds)))(d:ds.length+es.length<=1000000):gq i m ρ O=.nx (ρ.set i (some (.lst (ds++es)))) j:=by
 rw[Im,h,Io f d]
def Fr(O d:au)(S:List Nat):Prop:=∀(m:Nat) (x:Ob),m∉S->O[m]?=some x->d[m]?=some x
def Fr.trans  {S:List Nat}(a:Fr O t S)(b:Fr t j T)(hs:∀x∈S,x∈U)(f:∀x∈T,x∈U):Fr O j U:=λm x d h=>b m x (λz=>d (f _ z)) (a m x (λz=>d (hs _ z)) h)
def Fr.set   :Fr O (O.set n y) [n]:=λm x d h=>by
 rw[zj λz=>d (by rw[z];exact List.mem_singleton_self _)];exact h
def Kp.fr  (k:Kp O d):Fr O d []:=λm x _ h=>k m x h
def MkA(O:au)(o n:Nat)(M:Int)(d:List Nat)(s:Sta):Prop:=O[o]?=some (mkO M d n s.i s.g s.st)/\O[n]?=some (.ml (s.row.map dL))
def MkA.mk   {M:Int}   (h:MkA O o n M d s):Mk O o M d s:=⟨n,h⟩
def Keeps.fr   {M:Int}   (k:Keeps O j o)(h:MkA O o n M t s):Fr O j [o,n]:=λm x f hx=>by
 by_cases z:∃d,x=.ml d
 ·obtain⟨d,rfl⟩:=z;exact(k.1 m d (oZ hx h.1 λe=>f (by rw[e];simp))).1
 ·exact k.2 m x (λe=>f (by rw[e];simp)) (λd e=>z ⟨d,e⟩) hx
def Nw(O:au)(n d:Nat):Prop:=∀(m:Nat) (f:List D),m≠n->O[m]?=some (.ml f)->d≠m
def Keeps.nw   {M:Int}   (k:Keeps O u o)(h:MkA O o n M y s)(h':Mk u o M t x):∃d,MkA u o d M t x/\Nw O n d:=by
 obtain⟨d,a,b⟩:=h';exact⟨d,⟨a,b⟩,λm j e f=>(k.1 m j (oZ f h.1 (Ne.symm e))).2 _ _ _ _ _ _ a⟩
def lG(nm:List Nat)(rd mk:Nat)(c:Bool):Ob:=.ins "Hand" [("name",.str nm),("reader",.ob rd),("maker",.ob mk),("closed",.bl c)]
theorem Mg{rd mk:Nat}{c:Bool}{nm:List Nat}{M:Int}(F:1<=M/\M<=200)(a1:Option D):∀(d:List It3) (O:au) (u:List Nat) (s:Sta) (T:List D) (E:List Du) (t:Option D),(∀x∈d,Itm x.2.1 x.2.2)->T.length+d.length<=10000->O[hd]?=some (lG nm rd mk c)->Mk O mk M u s->OkS M s->TD O mk T E ->
  ∃j C f,bj (mgN 3) (gq 2 (aQ "Maker" "put" qN (bf ["Hand"] "maker" (aa 0)) (aj (aa 3) ao))) (d.map itD) [some (.ob hd),a1,some (.lst T),t] O=.nx [some (.ob hd),a1,some (.lst C),f] j/\Mk j mk M (lwO u (rn M s d).2) (rn M s d).1/\TD j mk C (E++(rn M s d).2)/\Keeps O j mk
 | [],O,u,s,T,E,t,_,_,_,h,_,td=>⟨O,T,t,rfl,h,by simpa [rn] ,Keeps.refl⟩
 |x::d,O,u,s,T,E,t,hi,hl,hh,h,hs,td=>by
  have it:=hi x zd;rw[zw] at hl;obtain⟨P,told,q,G,I,sp,kp⟩:=QA2 h hs F.2 it;obtain⟨n,e,_⟩:=id h;have m:=Qxv G I sp;have tl:=m.len;have R:=Bu M s x.2.1;obtain⟨j,C,f,L,h2,h3,h4⟩:=Mg F a1 _ P _ _ _ _ _ (λy J=>hi y (zm _ J)) (by rw[ze];omega) (kp.2 hd _ (λz=>by rw[z,e] at hh;cases hh) (λQ z=>nomatch z) hh) G (hs.stp F.1 it) (TD.app m (td.keeps kp));rw[QAu,<-Bv] at h2;rw[zB] at h3;refine⟨j,C,f,(fc (ρ1:=[some _,a1,some _,some _]) rfl (Mf ((dI (dW rfl hh zd rfl) e rfl (ma1 rfl)).trans q) rfl (by omega))).trans L,h2,h3,kp.trans h4⟩
def Mh    {M:Int}(t:1<=M/\M<=200)    (j:∀x∈C,Itm x.2.1 x.2.2)(y:C.length<=5000)(m:O[hd]?=some (lG nm rd mk c))(h:MkA O mk n M E s)(hs:OkS M s):
  ∃d f T,uL [.ob hd,.lst (C.map itD)] O=.ok (.lst T) d/\MkA d mk f M (lwO E (rn M s C).2) (rn M s C).1/\Nw O n f/\TD d mk T (rn M s C).2/\Fr O d [mk,n]:=by
 obtain⟨d,T,u,e,h1,h2,h3⟩:=Mg t _ _ O E s [] [] _ j (by simp;omega) m h.mk hs True.intro;obtain⟨f,a,b⟩:=h3.nw h h1;refine⟨d,f,T,cO ?_,a,b,h2,h3.fr h⟩;exact(aR (bh rfl)).trans ((aR (fQ (dj rfl) e)).trans rfl)
def cls:Ob->Str
 | .ins c _=>c
 | _=>""
def aN{O:au}{i:Nat}  (c d:Str)(h1:O[i]?=some x)(h2:O[j]?=some y)(hx:cls x=c:=by rfl)(f:cls y=d:=by rfl)(h:c≠d:=by decide):i≠j:=λz=>by
 rw[z,h2] at h1;rw[<-zE h1,f] at hx;exact h hx.symm
def bI{a:Nat}(h:a≠b):a∉[b]:=λz=>h (zh.mp z)
def jX{a:Nat}(h:a≠b)(h2:a≠c):a∉[b,c]:=λz=>by simp at z;omega
def HnA(O:au)(M:Int)(hd rd mk n:Nat)(nm t:List Nat):Prop:=O[hd]?=some (lG nm rd mk false)/\O[rd]?=some (RO (aZ [] 0 t).2 t.length)/\MkA O mk n M (lwO bC (rn M s0 (sI t)).2) (rn M s0 (sI t)).1
def MkA.fr   {M:Int}   {S:List Nat}(h:MkA O o n M d s)(f:Fr O j S)(h1:o∉S)(h2:n∉S):MkA j o n M d s:=⟨f _ _ h1 h.1,f _ _ h2 h.2⟩
def Mi    (h:O[hd]?=some (lG nm rd mk false)):uK [.ob hd] O=.ok .non O:=by
 show aY _=_;unfold JK;rw[cI (QAS (dW rfl h zd rfl))];rfl
def rH     (h:m ρ O=.ok d f):dJ m ρ O=.nx ρ f:=by rw[qx,h,uv]
def ig{M:Int}(d:1<=M)  (f:Okt t):OkS M (rn M s0 (sI t)).1:=(iR d _ s0 (vB d) λx hx=>(si f).i x (zZ _ hx)).1
def Qw2  {M:Int}   (R:1<=M/\M<=200)(h:HnA O M hd rd mk n nm t)(Q:Okt t)(Y:Okt p)(u:Okt (t++p)):
  ∃y G T,yI [.ob hd,.str p] O=.ok (.lst T) y/\HnA y M hd rd mk G nm (t++p)/\Nw O n G/\TE y T (rn M (rn M s0 (sI t)).1 (jI t p)).2/\Fr O y [rd,mk,n]:=by
 obtain⟨d,j,C⟩:=h;have S:=si Q;obtain⟨J,X,W⟩:=Bx u;have U:=si u;have f:=Lw j S.H p Y;have I:Fr O (O.set rd (RO (aZ (aZ [] 0 t).2 t.length p).2 (t.length+p.length))) _:=Fr.set;have E :=aN "Maker" "Reader" C.1 j;have P :=aN "" "Reader" C.2 j;have F:=I _ _ (bI (aN "Hand" "Reader" d j)) d
 obtain⟨y,G,T,e,a,b,te,fr⟩:=Mh R (λx hx=>U.i x (zZ _ (by rw[J];exact zH _ hx))) (by
  have l:=U.l
  have:=u.len
  rw[ze,J,ze] at l
  omega) F (C.fr I (bI E) (bI P)) (ig R.1 Q)
 have L:=fr rd _ (jX (Ne.symm E) (Ne.symm P)) (gs j);refine⟨y,G,T,cO ?_,⟨fr hd _ (jX (aN "Hand" "Maker" d C.1) (aN "Hand" "" d C.2)) F,?_,?_⟩,λm Z h1 h2=>b m Z h1 (I m _ (bI (aN "" "Reader" h2 j)) h2),te.te,I.trans fr (by simp) (by simp)⟩
 ·refine(aR (rH ((dI rfl d rfl rfl).trans (Mi d)))).trans (fj (dI rfl d rfl (oW ((dI (dW rfl d zd rfl) j rfl (ma1 rfl)).trans (f.trans (by rw[X])))) |>.trans e))
 ·rw[W,ze];exact L
 ·rw[J,pA,Bv];exact a
theorem TE.fr  {S:List Nat}(f:Fr O O' S)(hs:∀(m:Nat) (ds:List D),O[m]?=some (.ml ds)->m∉S):∀{T:List D}{j:List Du},TE O T j->TE O' T j
 | [],[],_=>True.intro
 |d::T,x::j,h=>by
  obtain⟨⟨n,e,t⟩,y,u⟩:=h;exact⟨⟨n,e,f n _ (hs n _ t) t⟩,y,TE.fr f hs u⟩
 | [],_::_,h=>h.elim
 | _::_,[],h=>h.elim
theorem TE.app    (h':TE O T' Ds'):∀{T:List D}{f:List Du},TE O T f->TE O (T++T') (f++Ds')
 | [],[],_=>h'
 |d::T,x::f,h=>⟨h.1,h.2.1,TE.app h' h.2.2⟩
 | [],_::_,h=>h.elim
 | _::_,[],h=>h.elim
theorem TE.len :∀{T:List D}{f:List Du},TE O T f->T.length=f.length
 | [],[],_=>rfl
 |d::T,x::f,h=>by simp[TE.len h.2.2]
 | [],_::_,h=>h.elim
 | _::_,[],h=>h.elim
def Prt.te   {du:List Du}(p:Prt O told du):TE O told du:=by
 rcases p with⟨rfl,rfl⟩ | ⟨n,r,w,rfl,rfl,h3,h4,d,_⟩
 ·exact True.intro
 ·exact⟨⟨n,rfl,h3⟩,⟨d,h4⟩,True.intro⟩
def HnC(O:au)(M:Int)(hd rd mk n:Nat)(nm:List Nat):Prop:=O[hd]?=some (lG nm rd mk true)/\(∃p,O[rd]?=some (RO [] p))/\∃d,MkA O mk n M d ⟨[],false,46,46⟩
def lstP(M:Int)(t:List Nat):List Du:=if(rn M s0 (sI t++hI t)).1.row≠[]\/lwO bC (rn M s0 (sI t++hI t)).2=cj then[((rn M s0 (sI t++hI t)).1.row,bC)] else[]
def Qte  {M:Int}   (J:1<=M/\M<=200)(h:HnA O M hd rd mk n nm t)(W:Okt t):
  ∃X n' T,yJ [.ob hd] O=.ok (.lst T) X/\HnC X M hd rd mk n' nm/\Nw O n n'/\TE X T ((rn M (rn M s0 (sI t)).1 (hI t)).2++lstP M t)/\Fr O X [hd,rd,mk,n]:=by
 obtain⟨C,E,u⟩:=h;have S:=si W;have f:=Lx E S.H;have L:Fr O (O.set rd (RO [] t.length)) [rd]:=Fr.set;have Q:mk≠rd:=aN "Maker" "Reader" u.1 E;have nn:n≠rd:=aN "" "Reader" u.2 E;have U:=L _ _ (bI (aN "Hand" "Reader" C E)) C
 have hi :=λx hx=>S.i x (zH _ hx)
 have hl:=S.l;have hl2:=W.len;rw[ze] at hl;obtain⟨O2,n2,T,e,a,b,td,fr⟩:=Mh J hi (by omega) U (u.fr L (bI Q) (bI nn)) (ig J.1 W);have F:=fr rd _ (jX (Ne.symm Q) (Ne.symm nn)) (gs E);have j:=fr hd _ (jX (aN "Hand" "Maker" C u.1) (aN "Hand" "" C u.2)) U;have ok:=iR J.1 _ s0 (vB J.1) S.i;have ra:=pA
 have P:OkS M (rn M (rn M s0 (sI t)).1 (hI t)).1:=by
  have:=ok.1
  rw[ra] at this;exact this
 obtain⟨O3,told,q,m3,p3,Z⟩:=QsP a.mk P.ok (by have:=P.len;omega);obtain⟨n3,a3,b3⟩:=Z.nw a m3;have I:=Z.fr a;have d:=I hd _ (jX (aN "Hand" "Maker" j a.1) (aN "Hand" "" j a.2)) j;have R:=I rd _ (jX (aN "Reader" "Maker" F a.1) (aN "Reader" "" F a.2)) F;have Y:Fr O3 (O3.set hd (lG nm rd mk true)) [hd]:=Fr.set;have tl:=td.len;have dl:=(iR J.1 (hI t) _ (ig J.1 W) hi).2
 have tl2:told.length<=1:=by
  rw[p3.te.len]
  split<;>simp
 have te:TE O3 (T++told) ((rn M (rn M s0 (sI t)).1 (hI t)).2++lstP M t):=by
  unfold lstP;rw[ra,Bv];exact TE.app p3.te (td.keeps Z).te
 refine⟨_,n3,T++told,cO ?_,⟨gs d,⟨_,Y _ _ (bI (aN "Reader" "Hand" R d)) R⟩,_,a3.fr Y (bI (aN "Maker" "Hand" a3.1 d)) (bI (aN "" "Hand" a3.2 d))⟩,λm ds h1 h2=>?_,TE.fr Y (λm ds u=>bI (aN "" "Hand" u d)) te,?_⟩
 ·refine(aR (rH ((dI rfl C rfl rfl).trans (Mi C)))).trans ?_;refine(aR (iQ (dI (n:=hd) rfl C rfl (oW ((dI (n:=rd) (dW (n:=hd) rfl C zd rfl) E rfl rfl).trans (f.trans (by rw[S.h])))) |>.trans e))).trans ?_;refine(aR (Mf (ds:=T) ((dI (n:=mk) (dW (n:=hd) rfl j zd rfl) a.1 rfl rfl).trans q) rfl (by omega))).trans ?_;exact(aR (gY (n:=hd) rfl rfl d zd (by show 4<900;decide))).trans rfl
 ·have z:=L m _ (bI (aN "" "Reader" h2 E)) h2;exact b3 m ds (Ne.symm (b m ds h1 z)) (fr m _ (jX (aN "" "Maker" h2 u.1) h1) z)
 ·intro m x hx G;simp only[zk,List.not_mem_nil,or_false,not_or] at hx;have z:=fr m x (jX hx.2.2.1 hx.2.2.2) (L m x (bI hx.2.1) G)
  by_cases y:m=n2
  ·have e':=a.2;rw[<-y,z] at e';rw[zE e'] at G;exact absurd y.symm (b m _ hx.2.2.2 (L m _ (bI hx.2.1) G))
  ·exact Y m x (bI hx.1) (I m x (jX hx.2.2.1 y) z)
def vD     (h:m ρ O=.ok (.int i) O):moS m ρ O=.ok (some i) O:=by rw[QC5,h,aL,QBh]
def By     (d:a ρ O=.ok (.str i) O)(hb:b ρ O=.ok (.str j) O):az (ak gEq a b) ρ O=.ok (decide (i=j)) O:=bR (aP d hb rfl)
def vG       (d:m ρ O=.ok (.str t) O)(f:a ρ O=.ok x O)(hb:b ρ O=.ok y O)(hz:t.length<=1000000):mSl m a b ρ O=.ok (.str (cG t x y)) O:=by
 rw[QCs,d,aL,f,aL,hb,aL,mD,Ht,if_pos (by omega),jF]
theorem BJ{α:Type}(f:α->Int):∀l:List α,d9 (l.map λx=>.int (f x))=some (l.map f)
 | []=>rfl
 |x::l=>by
  show(d9 _).map _=_;rw[BJ ];rfl
structure NOk(n:List Nat):Prop where
 l1:1<=n.length
 l8:n.length<=8
 ok:∀c∈n,97<=c/\c<=122
structure Nms(N:List (List Nat)):Prop where
 ok:∀n∈N,NOk n
 ne:N≠[]
 l4:N.length<=4
 nd:N.Nodup
def wd:List (List Nat)->Nat
 | []=>0
 |n::r=>max n.length (wd r)
theorem BK:∀{N:List (List Nat)}{n:List Nat},n∈N->n.length<=wd N
 |m::r,n,h=>by
  rcases zk.mp h with rfl | h
  ·exact Nat.le_max_left _ _
  ·exact zN (BK h) (Nat.le_max_right _ _)
theorem BL:∀{N:List (List Nat)},N≠[]->∃n∈N,n.length=wd N
 | [m],_=>⟨m,by simp[wd]⟩
 |m::k::r,_=>by
  obtain⟨n,h1,h2⟩:=BL (N:=k::r) (by simp);unfold wd
  rcases Nat.le_total _ _ with h | h
  ·exact⟨n,zm _ h1,by rw[Nat.max_eq_right h];exact h2⟩
  ·exact⟨m,zd,by rw[Nat.max_eq_left h]⟩
def wd8  (h:Nms N):wd N<=8:=by
 obtain⟨n,h1,h2⟩:=BL h.ne;rw[<-h2];exact(h.ok n h1).l8
def dNm(N:List (List Nat)):D:=.lst (N.map D.str)
def Mj  (h:Nms N)    (f:ρ[i]?=some (some (dNm N))):aU lZ (aj (bO (bz (aa i)) 1 [] (mgN 0) bV (aU bc (aj (aa 0) ao))) ao) ρ O=.ok (.int (wd N:Int)) O:=by
 have z:=iH (g:=mgN 0) (t:=bV) (m:=aU _ (aj (aa 0) _)) (λρ=>∃a,ρ=[a]) D.str _ N _ O [] ⟨none,rfl⟩ (by
  rintro y hy ρ ⟨a,rfl⟩
  exact⟨_,rfl,⟨_,rfl⟩,rfl,rE rfl (by have:=(h.ok y hy).l8;omega)⟩)
 rw[zU] at z;have l4:=h.l4
 have u:bO (bz (aa i)) 1 [] (mgN 0) bV (aU bc (aj (aa 0) ao)) ρ O=.ok (.lst (N.map λn=>.int n.length)) O:=by
  rw[oG,oF,gb,f];show(if(N.map _).length<=1000000 then _ else _)=_;rw[if_pos (by rw[zf];omega),show dM 1 [] ρ=[none] from rfl,z,aL]
 refine gW (ma1 u) ?_;show lZ [.lst _]=_;unfold lZ
 dsimp
 rw[BJ]
 dsimp
 obtain⟨n,h1,h2⟩:=BL h.ne
 rw[xC (zz.mpr ⟨n,h1,by rw[h2]⟩) λa j=>by
  obtain⟨m,d,rfl⟩:=zz.mp j
  have:=BK d
  omega]
 rfl
def pad(w:Nat)(n:List Nat):List Nat:=n++List.replicate (w - n.length) 32
def BP   (h:n∈N):(pad (wd N) n).length=wd N:=by
 have:=BK h
 unfold pad;rw[ze,List.length_replicate];omega
def kW:List Nat:=[119,104,111,108,101]
def Ml  (h:Nms N)  (f:n∈N)(W:List Nat)(O:au):uU [.str n,dNm N,.str W] O=.ok (.str (pad (wd N) n++[if W=kW then 124 else 62])) O:=by
 have x:=wd8 h;have pl:=BP f;show aY _=_;unfold J4;rw[fK (bh (Mj h rfl))];refine congrArg aY (a₂:=.rt _ O) ?_
 have u:uf (mG (aa 0)) (aa 3) [some (.str n),some (dNm N),some (.str W),some (.int (wd N))] O=.ok (.str (pad (wd N) n)) O:=by
  unfold uf;rw[show mG _ _ O=.ok _ O from rfl,aL,show aa 3 _ O=.ok _ O from rfl,aL]
  dsimp
  rw[if_pos (by omega)];rfl
 have t:mIf (az (ak gEq (aa 2) (kS [119,104,111,108,101]))) (kS [124]) (kS [62]) [some (.str n),some (dNm N),some (.str W),some (.int (wd N))] O=.ok (.str [if W=kW then 124 else 62]) O:=by
  rw[iD,By (j:=kW) rfl rfl]
  by_cases d:W=kW
  ·rw[zv d,if_pos d];rfl
  ·rw[zq d,if_neg d];rfl
 rw[dO];have m:=gH u t (by rw[zR];omega);exact congrArg _ m
def slT{a:Nat}(f:m ρ O=.ok (.str t) O)(d:q ρ O=.ok (.int (a:Int)) O)(hz:t.length<=1000):mSl m moN (moS q) ρ O=.ok (.str (t.take a)) O:=(vG f rfl (vD d) (by omega)).trans (by rw[Lz])
def add_n(d:m ρ O=.ok (.int (a:Int)) O)(hb:q ρ O=.ok (.int (b:Int)) O):ak aH m q ρ O=.ok (.int ((a+b:Nat):Int)) O:=(mV d hb).trans (by rfl)
def BR   (h:T ρ O=.ok true O)(h2:m ρ O=.ok d O):aJ T (aA m) aM ρ O=.rt d O:=(eZ h).trans (by rw[dO,h2];rfl)
def vH   (h:T ρ O=.ok false O):aJ T x aM ρ O=.nx ρ O:=cI h
def QC0  (d:m ρ O=.ok (.int i) O)(hb:q ρ O=.ok (.int j) O)(h:i<j):az (ak gLt m q) ρ O=.ok true O:=(u9 d hb).trans (by rw[zv h])
def QBS  (d:m ρ O=.ok (.int i) O)(hb:q ρ O=.ok (.int j) O)(h:¬i<j):az (ak gLt m q) ρ O=.ok false O:=(u9 d hb).trans (by rw[zq h])
def Mm  (d:m ρ O=.ok (.int i) O)(hb:q ρ O=.ok (.int j) O)(h:i=j):az (ak gEq m q) ρ O=.ok true O:=(jR d hb).trans (by rw[zv h])
def eq_n  (d:m ρ O=.ok (.int i) O)(hb:q ρ O=.ok (.int j) O)(h:¬i=j):az (ak gEq m q) ρ O=.ok false O:=(jR d hb).trans (by rw[zq h])
def gf  (d:m ρ O=.ok (.int c) O)(hb:q ρ O=.ok (.int k) O)(h0:0<=k)(h1:k<=1000000):aC cT (aj m (aj q ao)) ρ O=.ok (.int (mix c k)) O:=(bw (maS d (ma1 hb))).trans (QAB c k h0 h1 O)
def pB(v:Int){n:Nat}(h:0<n):∃a:Nat,v % (n:Int)=(a:Int)/\a<n:=⟨(v % n).toNat,by have:=js v (b:=n);have:=ju v (b:=n);omega⟩
def abc:List Nat:=[97,98,99,100,101,102,103,104,105,106,107,108,109,110,111,112,113,114,115,116,117,118,119,120,121,122]
def QzI:∀i:Nat,i<26->abc[i]?=some (97+i):=by decide
def Mp{i:Nat}(h:i<26):gIx (.str abc) (.int (i:Int))=some (.str [97+i]):=by
 rw[HN,gR,QzI i h];rfl
def lb(c:Int)(k:Nat):Nat:=97+(mix c (20+(0+(k:Int))) % 26).toNat
theorem BV{α:Type}(f:α->Nat):∀l:List α,(l.map λi=>[f i]).flatten=l.map f
 | []=>rfl
 |x::l=>by rw[zg,List.flatten_cons,BV ];rfl
theorem BW{α:Type}(f:α->Nat):∀l:List α,((l.map λi=>[f i]).map List.length).sum=l.length
 | []=>rfl
 |x::l=>by rw[zg,zg,List.sum_cons,BW ];simp;omega
def Mq   {ρc:aK}   (f:dM 1 cap ρ=none::ρc)(d:∀k:Nat,k<8->e (some (.int (0+(k:Int)))::ρc) O=.ok (.str [g k]) O):jC (bO (eE (aj (kI 8) ao)) 1 cap (mgN 0) bV e) ρ O=.ok (.str ((List.range 8).map g)) O:=by
 have z:=iH (g:=mgN 0) (t:=bV) (λρ=>∃a,ρ=a::ρc) _ _ _ _ O [] ⟨none,rfl⟩ (by
  rintro k hk ρ ⟨a,rfl⟩
  exact⟨_,rfl,⟨_,rfl⟩,rfl,d k (List.mem_range.mp hk)⟩)
 rw[zU] at z;rw[Ia,oG,f];show((b7 _ _ _ ((List.range 8).map _) _ O []).bind _).bind _=_;rw[z,aL,aL,fH,H9,uy,HY,BW,if_pos (by decide),BV]
def QwV(c:Int):((List.range 8).map (lb c)).length=8/\∀x∈(List.range 8).map (lb c),97<=x/\x<=122:=by
 refine⟨by simp,λx hx=>?_⟩;obtain⟨k,_,rfl⟩:=zz.mp hx;unfold lb;omega
def nA(base:List Nat)(k:Nat):List Nat:=base.take (8 - k)
def nB(base:List Nat)(a s f k:Nat):List Nat:=base.take a++[97+(f+k)]++(base.drop (a+1)).take (s - (a+1))
def Mr  (h1:1<=m)(h4:m<=4)  (ok:∀k,k<m->NOk (g k))(ne:∀j k,j<k->k<m->g j≠g k):Nms ((List.range m).map g):=by
 refine⟨λn d=>?_,?_,by simpa ,?_⟩
 ·obtain⟨k,f,rfl⟩:=zz.mp d;exact ok k (List.mem_range.mp f)
 ·intro z
  have:=congrArg List.length z
  simp at this
  omega
 ·show List.Pairwise _ _;rw[List.pairwise_map];exact List.Pairwise.imp_of_mem (λ{a b} ha hb hab=>ne a b hab (List.mem_range.mp hb)) List.pairwise_lt_range
def Nms.rev  (h:Nms N):Nms N.reverse:=⟨λn d=>h.ok n (List.mem_reverse.mp d),by simpa using h.ne,by simpa using h.l4,List.pairwise_reverse.mpr (List.Pairwise.imp (λ{a b} z=>Ne.symm z) h.nd)⟩
def QAv  (f:base.length=8)(hb:∀x∈base,97<=x/\x<=122)  (h1:1<=m)(h4:m<=4):Nms ((List.range m).map (nA base)):=Mr h1 h4 (λk d=>⟨by unfold nA;rw[List.length_take];omega,by unfold nA;rw[List.length_take];omega,λx hx=>hb x (List.mem_of_mem_take hx)⟩) λj k t d e=>by
 have:=congrArg List.length e
 unfold nA at this;rw[List.length_take,List.length_take] at this;omega
def QBr  (u:base.length=8)(hb:∀x∈base,97<=x/\x<=122)  (E:a<s)(hs:s<=8)(C:f<20)  (h1:1<=m)(h4:m<=4):Nms ((List.range m).map (nB base a s f)):=by
 have len:∀k,(nB base a s f k).length=s:=λk=>by
  unfold nB;rw[ze,ze,List.length_take,List.length_take,List.length_drop,zR];omega
 have d:∀k,(nB base a s f k)[a]?=some _:=λk=>by
  unfold nB;rw[zB,zL (by rw[List.length_take];omega),List.length_take,show a - min a _=0 by omega];rfl
 refine Mr h1 h4 (λk t=>⟨by rw[len];omega,by rw[len];omega,λx hx=>?_⟩) λj k y t e=>?_
 ·rcases zx.mp hx with hx | hx
  ·rcases zx.mp hx with hx | hx
   ·exact hb x (List.mem_of_mem_take hx)
   ·rw[zh.mp hx];omega
  ·exact hb x (List.mem_of_mem_drop (List.mem_of_mem_take hx))
 ·have h1:=d j;rw[e,d] at h1
  have:=zE h1
  omega
def BX  (j:m<=4)   {ρc:aK}   (h1:ρ[1]?=some (some (.int (m:Int))))(f:dM 1 cap ρ=none::ρc)(d:∀k,k<m->e (some (.int (0+(k:Int)))::ρc) O=.ok (.str (g k)) O):bO (eE (aj (aa 1) ao)) 1 cap (mgN 0) bV e ρ O=.ok (dNm ((List.range m).map g)) O:=by
 have z:=iH (g:=mgN 0) (t:=bV) (λρ=>∃a,ρ=a::ρc) _ _ _ _ O [] ⟨none,rfl⟩ (by
  rintro k hk ρ ⟨a,rfl⟩
  exact⟨_,rfl,⟨_,rfl⟩,rfl,d k (List.mem_range.mp hk)⟩)
 rw[oG,Am (by rw[gb,h1]) (by omega),aL,if_pos (by unfold fY;rw[zf,List.length_range];omega),f];show(b7 _ _ _ ((List.range m).map _) _ O []).bind _=_;rw[z];unfold dNm;rw[zO];rfl
def Ms{T:L2.M Bool}     (h:T [a,b,c,d,some (dNm N),e,f,g] O=.ok bb O):aJ T (tW 4) aM [a,b,c,d,some (dNm N),e,f,g] O=.nx [a,b,c,d,some (dNm (if bb then N.reverse else N)),e,f,g] O:=by
 cases bb with
 |true=>exact(eZ h).trans (by unfold dNm;rw[if_pos rfl,List.map_reverse];rfl)
 |false=>exact cI h
def Qvy(c:Int){m:Nat}(h1:1<=m)(h4:m<=4)(O:au):∃N,Nms N/\Ai [.int c,.int (m:Int)] O=.ok (dNm N) O:=by
 obtain⟨C,G⟩:=QwV c
 have u:∀{N:List (List Nat)} (d:Bool),Nms N->Nms (if d then N.reverse else N):=λd h=>by
  cases d with
  |true=>exact h.rev
  |false=>exact h
 suffices h:∃N,Nms N/\Ah [some (.int c),some (.int (m:Int)),none,none,none,none,none,none] O=.rt (dNm N) O by
  obtain⟨N,h1,h2⟩:=h;exact⟨N,h1,congrArg aY h2⟩
 unfold Ah
 have I:∀k:Nat,k<8->ak gIx (aa 2) (ak b8 (aC cT (aj (aa 1) (aj (ak aH (kI 20) (aa 0)) ao))) (kI 26)) [some (.int (0+(k:Int))),some (.int c),some (.str abc)] O=.ok (.str [lb c k]) O:=λk E=>aP (x:=.str abc) rfl (dU (gf rfl (mV rfl rfl) (by omega) (by omega)) rfl (by decide)) (by
  rw[mD,jG,show mix c (20+(0+(k:Int))) % 26=((mix c (20+(0+(k:Int))) % 26).toNat:Int) by omega,Mp (by omega)]
  rfl)
 have J:∀k:Nat,k<m->mSl (aa 1) moN (moS (ak jA (kI 8) (aa 0))) [some (.int (0+(k:Int))),some (.str ((List.range 8).map (lb c)))] O=.ok (.str (nA ((List.range 8).map (lb c)) k)) O:=λk E=>slT (a:=8 - k) rfl ((An rfl rfl).trans (by rw[show(8:Int) - (0+(k:Int))=((8 - k:Nat):Int) by omega])) (by omega)
 by_cases F:mix c 28 % 3>0
 ·obtain⟨s,hs,R⟩:=pB (mix c 29) (n:=8) (by omega);obtain⟨a,P,Q⟩:=pB (mix c 30) (n:=1+s) (by omega);obtain⟨f,L,f20⟩:=pB (mix c 31) (n:=20) (by omega);refine⟨_,u (decide (mix c 32 % 2=0)) (QBr C G (s:=1+s) Q (by omega) f20 h1 h4),(fK (bh rfl)).trans ((fK (bh (Mq (ρc:=[some (.int c),some (.str abc)]) rfl I))).trans ((fK (bh (BX h4 (ρc:=[some (.str ((List.range 8).map (lb c)))]) rfl rfl J))).trans ((fK ((eZ (bR (aP (dU (gf rfl rfl (by decide) (by decide)) rfl (by decide)) (y:=.int 0) rfl (show gGt (.int (mix c 28 % 3)) (.int 0)=some (.bl true) from congrArg (λx=>some (D.bl x)) (zv F))))).trans ((fK (bh (add_n (a:=1) rfl ((dU (gf rfl rfl (by decide) (by decide)) rfl (by decide)).trans (congrArg (λx=>Res.ok (D.int x) O) hs))))).trans ((fK (bh ((dU (gf rfl rfl (by decide) (by decide)) rfl (by omega)).trans (congrArg (λx=>Res.ok (D.int x) O) P)))).trans ((fK (bh ((dU (gf rfl rfl (by decide) (by decide)) rfl (by decide)).trans (congrArg (λx=>Res.ok (D.int x) O) L)))).trans (bh (BX h4 rfl rfl λk E=>?_))))))).trans ((fK (Ms (jR (dU (gf rfl rfl (by decide) (by decide)) rfl (by decide)) rfl))).trans rfl))))⟩
  have j:=vG (m:=aa 2) (b:=moS (aa 3)) (ρ:=[some (.int (0+(k:Int))),some (.str abc),some (.str ((List.range 8).map (lb c))),some (.int ((1+s:Nat):Int)),some (.int (a:Int)),some (.int (f:Int))]) (O:=O) (t:=(List.range 8).map (lb c)) (x:=some ((a+1:Nat):Int)) (y:=some ((1+s:Nat):Int)) rfl (vD (m:=ak aH (aa 4) (kI 1)) (add_n (b:=1) rfl rfl)) rfl (by omega);rw[Bo] at j;exact gH (gH (slT rfl rfl (by omega)) (aP (x:=.str abc) (y:=.int ((f+k:Nat):Int)) rfl ((mV rfl rfl).trans (by rw[show(f:Int)+(0+(k:Int))=((f+k:Nat):Int) by omega])) (Mp (by omega))) (by rw[List.length_take,zR];omega)) j (by rw[ze,List.length_take,List.length_take,List.length_drop,zR];omega)
 ·exact⟨_,u (decide (mix c 32 % 2=0)) (QAv C G h1 h4),(fK (bh rfl)).trans ((fK (bh (Mq (ρc:=[some (.int c),some (.str abc)]) rfl I))).trans ((fK (bh (BX h4 (ρc:=[some (.str ((List.range 8).map (lb c)))]) rfl rfl J))).trans ((fK (vH (bR (aP (dU (gf rfl rfl (by decide) (by decide)) rfl (by decide)) (y:=.int 0) rfl (show gGt (.int (mix c 28 % 3)) (.int 0)=some (.bl false) from congrArg (λx=>some (D.bl x)) (zq F)))))).trans ((fK (Ms (jR (dU (gf rfl rfl (by decide) (by decide)) rfl (by decide)) rfl))).trans rfl))))⟩
def NOk.asc  (h:NOk n):ascii n=true:=by
 unfold ascii;rw[jj];intro c d
 have:=h.ok c d
 exact zv (by omega)
def Qya  (h:NOk n)(O:au):yr [.str n] O=.ok (.bl true) O:=by
 have h1:=h.l1;have h2:=h.l8
 have u:b7 (mgN 0) bV (fV gLe gLe (kS [97]) (aa 0) (kS [122])) (cA n) [none] O []=.ok (n.map λ_=>.bl true) O:=by
  have z:=iH (g:=mgN 0) (t:=bV) (m:=fV gLe gLe (kS [97]) (aa 0) (kS [122])) (λρ=>∃a,ρ=[a]) (λc =>D.str [c]) (λ_=>.bl true) n _ O [] ⟨none,rfl⟩ (by
   rintro c hc ρ ⟨a,rfl⟩;have q:=h.ok c hc;refine⟨_,rfl,⟨_,rfl⟩,rfl,?_⟩
   simp[q])
  exact z
 have x:∀n:List Nat,jB (n.map λ_=>D.bl true)=some (n.map λ_=>true):=λn=>by
  induction n with
  |nil=>rfl
  |cons c n j=>simp only[zg,jB,j];rfl
 have y:sY [.lst (n.map λ_=>.bl true)]=some (.bl true):=by
  show(jB _).map _=_;rw[x];simp
 show aY (yq [some _] O)=_;unfold yq;have f:(n.length:Int)<=8/\(1:Int)<=n.length:=⟨by omega,by omega⟩
 have hs:(cA n).length<=1000000:=by unfold cA;rw[zf];omega
 have d:n.length<=1000000:=by omega
 simp only[eV,lr,mH,jH,Hs,gb,jp,aL,mD,QwA,Hr,Qzh,mz,mF,oA,Bool.not_true,uw,Bool.false_eq_true,if_false,Hv,jK,dO,QxI,Hk,m_c,xZ,jJ,mJ,jG,zg,zX,HQ,if_pos d,jF,QBB,zv f.1,zv f.2,QAm,if_true,oG,oF,HB h.asc,yc,if_pos hs,show dM 1 [] _=[none] from rfl,u,fH,y];rfl
theorem Mt{α:Type}{g:MG}{t:L2.M Bool}{m:L2.M D}(d:aK->Prop)(f h:α->D)(xs:List α)(O:au)(n:Nat)(j:O[n]?=some (.ml (xs.map f)))
  (hs:∀x∈xs,∀ρ,d ρ->∃ρ1,g (f x) ρ=some ρ1/\d ρ1/\t ρ1 O=.ok true O/\m ρ1 O=.ok (h x) O):∀(k:Nat) (ρ:aK) (acc:List D),k<=xs.length->d ρ->iC n xs.length g t m k ρ O acc=.ok (acc++(xs.drop (xs.length - k)).map h) O
 | 0,ρ,acc,_,_=>by
  unfold iC;rw[j];dsimp only;rw[if_pos (zf _),Nat.sub_zero,List.drop_length,zX,zG]
 |k+1,ρ,acc,hk,hp=>by
  have u:xs.length - (k+1)<xs.length:=by omega
  unfold iC;rw[j]
  dsimp
  rw[zC,zt]
  dsimp
  obtain⟨ρ1,E,h1,C,y⟩:=hs _ (ja _) ρ hp;rw[E]
  dsimp
  rw[C]
  dsimp
  rw[y]
  dsimp
  rw[Mt d f h xs O n j hs k _ _ (by omega) h1,zB,List.drop_eq_getElem_cons u,show xs.length - (k+1)+1=xs.length - k by omega];rfl
def Qtw{α:Type}{mi:L2.M D}{own:Nat}     (d:aK->Prop)(f h:α->D)(xs:List α)    (y:mi ρ O=.ok (.ob n) O)(j:O[n]?=some (.ml (xs.map f)))(u:xs.length<=1000000)(h0:d (dM own cap ρ))
  (hs:∀x∈xs,∀ρ,d ρ->∃ρ1,g (f x) ρ=some ρ1/\d ρ1/\t ρ1 O=.ok true O/\m ρ1 O=.ok (h x) O):qj mi own cap g t m ρ O=.ok (.lst (xs.map h)) O:=by
 unfold qj;rw[y,aL];dsimp only;rw[j];dsimp only;rw[if_pos (by rw[zf];exact u),zf,Mt d f h xs O n j hs _ _ [] (zc _) h0,aL,Nat.sub_self,List.drop_zero,zU]
structure Cl(Q:List Nat->Nat×Nat->List L3->Prop):Prop where
 ink:∀{c:Nat}{r:List Nat}{p:Nat×Nat}{acc:List L3},col c=true->Q r (c,p.2) acc->Q (91::c::93::r) p acc
 gr:∀{c:Nat}{r:List Nat}{p:Nat×Nat}{acc:List L3},col c=true->Q r (p.1,c) acc->Q (91::47::c::93::r) p acc
 pl:∀{r:List Nat}{p:Nat×Nat}{acc:List L3},Q r (46,46) acc->Q (91::93::r) p acc
 sg:∀{c:Nat}{r:List Nat}{p:Nat×Nat}{acc:List L3},32<=c/\c<=125->acc.length<1000->Q r p (acc++[(c,if c=32 then 46 else p.1,p.2)])->Q (sgn c++r) p acc
def Cl.mi_(C:Cl Q)  (h:col c=true)(k:Q t (c,j) acc):Q (mi p c++t) (p.1,j) acc:=by
 unfold mi
 by_cases e:p.1=c
 ·rw[if_pos e,e];exact k
 ·rw[if_neg e];exact C.ink h k
def Cl.mg_(C:Cl Q)  (h:col c=true)(k:Q t (j,c) acc):Q (mg' p c++t) (j,p.2) acc:=by
 unfold mg'
 by_cases e:p.2=c
 ·rw[if_pos e,e];exact k
 ·rw[if_neg e];exact C.gr h k
def Cl.mb_(C:Cl Q)(h1:col d.1=true)(h2:col d.2=true)(k:Q t d acc):Q (mb p d++t) p acc:=by
 unfold mb
 split
 ·unfold mbA;rw[zB];exact C.pl (C.mi_ h1 (C.mg_ h2 k))
 ·unfold mbS;rw[zB];exact C.mi_ h1 (C.mg_ h2 k)
structure LkR(l:List L3)(cs:List Nat):Prop where
 lo:∀x∈l,(32<=x.1/\x.1<=125)/\(x.1=32->x.2.1=46)
 cc:∀c∈cs,col c=true
 li:∀x∈l,col x.2.1=true
 lg:∀x∈l,col x.2.2=true
def Qxh   (h:LkR l m)   (d:n∈nds l m a):col n.2.1=true/\col n.2.2=true:=by
 unfold nds at d;split at d
 ·rw[zh.mp d];exact⟨rfl,rfl⟩
 ·split at d
  ·rename_i x hx;have f:=zJ hx;split at d
   ·obtain⟨c,j,rfl⟩:=zz.mp d;exact⟨h.cc c j,h.lg x f⟩
   ·rw[zh.mp d];exact⟨h.li x f,h.lg x f⟩
  ·cases d
def Mu  (h:col c=true):c<128:=by
 have :=zP h
 have q:∀c∈[97,98,99,100,101,102,103,104,46],c<128:=by decide
 exact q c this
theorem BZ  (C:Cl Q){l:List L3}{j:List Nat}(h:LkR l j){r:List Nat}{ps:Tb}:∀(ms:List M3) (a:Nat) (n:Nd) (acc:List L3),a<=l.length+1->n∈nds l j a->Wy ps (lmv l j) (oY l) n ms->acc.length+(l.length - a)<1000->Q r (46,46) (acc++l.drop a)->Q (txt ms++r) n.2 acc
 | [],a,n,acc,ha,hn,w,_,q=>by
  have h1:=lE hn;have y :=zP w
  have e:a=l.length+1:=by omega
  unfold nds at hn;rw[if_pos (.inr e)] at hn;rw[List.drop_eq_nil_of_le (by omega),zG] at q;rw[zh.mp hn];exact q
 |m::ms,a,n,acc,ha,hn,⟨y,hm,_,w⟩,hac,q=>by
  have h1:=lE hn;have t :=of_decide_eq_false y;unfold lmv at hm;rw[if_neg t] at hm;obtain⟨b,d,rfl⟩:=zz.mp hm
  have u:n.1.toNat=a:=by omega
  rw[u] at d;obtain⟨F,E⟩:=Qxh h d;rw[Bg];rw[u,zB,zB]
  by_cases f:a<l.length
  ·have hx :=zt f;have ok:=h.lo _ (ja f);rw[List.drop_eq_getElem_cons f] at q
   generalize l[a]=x at hx ok q
   have G:(x.1,if x.1=32 then 46 else b.2.1,b.2.2)=x:=by
    unfold nds at d;rw[if_neg (by omega),Nat.add_sub_cancel,hx] at d
    dsimp  at d
    by_cases h3:x.1=32
    ·rw[if_pos h3] at d;obtain⟨c,_,rfl⟩:=zz.mp d;rw[if_pos h3,<-ok.2 h3]
    ·rw[if_neg h3] at d;rw[zh.mp d,if_neg h3]
   rw[show sg l a=sgn _ by unfold sg;rw[hx]];refine C.mb_ F E (C.sg ok.1 (by omega) ?_);rw[G];exact BZ C h ms _ b _ (by omega) d w (by rw[ze];show _+1+_<_;omega) (by rw[zB];exact q)
  ·rw[show sg l a=[] by unfold sg;rw[jq (by omega)]];refine C.mb_ F E (BZ C h ms _ b acc (by omega) d w (by omega) ?_);rw[List.drop_eq_nil_of_le (by omega)] at q ⊢;exact q
def Mv  (h:okE (.lst L)=true):gNe (.lst L) (.lst L)=some (.bl false):=by
 rw[HH,h,Ig h];rfl
def Chr(t:List Nat):Prop:=∀x∈t,32<=x/\x<=125
def Qyn:Cl λt _ _=>Chr t:=by
 have q:∀{l r},Chr l->Chr r->Chr _:=λh k x hx=>(zx.mp hx).elim (h x) (k x)
 have cc:∀{c},col c=true->32<=c/\c<=125:=λh=>by
  have z:∀c∈[97,98,99,100,101,102,103,104,46],32<=c/\c<=125:=by decide
  exact z _ (zP h)
 refine⟨λ{c r p acc} h k=>?_,λ{c r p acc} h k=>?_,λ{r p acc} k=>?_,λ{c r p acc} h _ k=>?_⟩
 ·have:=cc h
  exact q (l:=[91,c,93]) (by intro x hx;simp at hx;omega) k
 ·have:=cc h
  exact q (l:=[91,47,c,93]) (by intro x hx;simp at hx;omega) k
 ·exact q (l:=[91,93]) (by intro x hx;simp at hx;omega) k
 ·exact q (by intro x hx;unfold sgn at hx;split at hx<;>simp at hx<;>omega) k
def Mw   (h:col c=true):one 91 (c::93::r)=(eX,[c],2):=by
 have q:=oK h;show(if c=93 then _ else if c=91 then _ else if col c=true then jN c _ else _)=_;rw[if_neg q.2.1,if_neg q.1,if_pos h];rfl
def Mx   (h:col c=true):one 91 (47::c::93::r)=(fJ,[c],3):=by
 show(if col c=true then iI c _ else _)=_;rw[if_pos h];rfl
def My{Q:List Nat->Nat×Nat->List L3->Prop}(st:∀{c:Nat}{r k v:List Nat}{n:Nat}{p j:Nat×Nat}{acc f:List L3},one c r=(k,v,n)->(k=eX/\(∃d,v=[d]/\j=(d,p.2))/\f=acc\/k=fJ/\(∃d,v=[d]/\j=(p.1,d))/\f=acc\/k=jM/\v=[]/\j=(46,46)/\f=acc\/k=bu/\(∃d,v=[d]/\f=acc++[(d,if d=32 then 46 else p.1,p.2)])/\j=p/\acc.length<1000)->Q (r.drop n) j f->Q (c::r) p acc):Cl Q:=by
 refine⟨λh k=>st (Mw h) (.inl ⟨rfl,⟨_,rfl,rfl⟩,rfl⟩) k,λh k=>st (Mx h) (.inr (.inl ⟨rfl,⟨_,rfl,rfl⟩,rfl⟩)) k,λk=>st rfl (.inr (.inr (.inl ⟨rfl,rfl,rfl,rfl⟩))) k,λ{c r p acc} h hl k=>?_⟩;unfold sgn
 by_cases e:c=91
 ·rw[if_pos e];rw[e] at k;exact st rfl (.inr (.inr (.inr ⟨rfl,⟨91,rfl,rfl⟩,rfl,hl⟩))) k
 ·rw[if_neg e];exact st (show one c r=(bu,[c],0) by unfold one;rw[if_neg (by omega),if_neg (by omega),if_neg e]) (.inr (.inr (.inr ⟨rfl,⟨c,rfl,rfl⟩,rfl,hl⟩))) k
def eU(T:List Nat)(acc:List L3)(p:Nat×Nat)(f d:Option D):aK:=[some (.str T),some (.tup [st p.1,st p.2]),some (.lst (acc.map dK)),f,d]
def RU(T:List Nat)(O:au)(F:List L3)(t:List Nat)(p:Nat×Nat)(acc:List L3):Prop:=∀(k:Int) (m j:Option D),∃f d,bj (mgN 3) bUn (items k t) (eU T acc p m j) O=.nx (eU T F (46,46) f d) O
abbrev pC:List Nat:=[97,98,99,100,101,102,103,104,46]
def l3(x:LT):L3:=(x.1,if x.1=32 then 46 else x.2.1,x.2.2.1)
def Mz(c i:Nat)(O:au):uM [.str [c],.str [i]] O=.ok (.str [if c=32 then 46 else i]) O:=by
 show aY _=_;unfold JP;rw[dO,iD,By rfl rfl,aL]
 by_cases h:c=32
 ·subst h;rfl
 ·rw[if_neg (by simp[h]),if_neg h];rfl
def Qxo   {r:List LT}(h:O[n]?=some (.ml (r.map dL)))(d:r.length<=1000):yK [.ob n] O=.ok (.lst ((r.map l3).map dK)) O:=by
 refine cO ?_;rw[zO];refine fj (Qtw (λρ=>∃a,ρ=[a]) dL _ r rfl h (by omega) ⟨_,rfl⟩ ?_);rintro x hx ρ ⟨a,rfl⟩;exact⟨_,rfl,⟨_,rfl⟩,rfl,qX (maS rfl (maS ((bw (maS rfl (ma1 rfl))).trans (Mz _ _ _)) (ma1 rfl))) (by simp)⟩
def QzL  (h:col c=true):c∈pC:=zP h
def il  :Kp O (O++[x]):=λj y h=>by grind
def Kp.trans{O f d:au}(a:Kp O f)(b:Kp f d):Kp O d:=λj y h=>b j y (a j y h)
def vI(M:Int)(t:List Nat):List Du:=(rn M s0 (sI t++hI t)).2++lstP M t
def rJ    (k:Kp O f)(h:O.length<=n):Kp O (f.set n y):=λj x d=>by
 rw[zj (Nat.ne_of_gt (zK (zu.mp d).1 h))];exact k j x d
def QC6     (h:m ρ O=.ok (.lst l) d):bz m ρ O=.ok l d:=by rw[oF,h];rfl
def Ca   :Cl (RU T O F):=My λ{c r k v n p p' acc acc'} h1 hs q i o3 o4=>by
 obtain⟨j,f,e⟩:=q (i+(n+1)) (some (item i k v)) (some (.str k));refine⟨j,f,?_⟩;rw[jO,h1];refine(fc rfl ?_).trans e
 rcases hs with⟨rfl,⟨d,rfl,rfl⟩,rfl⟩ | ⟨rfl,⟨d,rfl,rfl⟩,rfl⟩ | ⟨rfl,rfl,rfl,rfl⟩ | ⟨rfl,⟨d,rfl,rfl⟩,rfl,m⟩
 ·rfl
 ·rfl
 ·rfl
 ·refine .trans (aR (bh rfl)) (.trans (aR (jU rfl)) (.trans (aR (.trans (eZ rfl) (u6 (qX (maS rfl (maS ((bw (maS rfl (ma1 rfl))).trans (Mz _ _ _)) (ma1 rfl))) (by show 3<=_;decide)) rfl (by rw[zf];omega)))) ?_));unfold eU;rw[zM];rfl
def Qpb(t:List Nat)(f:Okt t)(O:au):∃u,yt [.str t] O=.ok (.lst (items 0 t)) u/\Kp O u:=by
 obtain⟨H,q⟩:=Iw t;have m:=Lw (Bm O) bA.h0 t f;have d:((O++[RO [] 0]).set _ (RO (aZ [] 0 t).2 (0+t.length)))[O.length]?=some _:=gs (Bm O);have j:=Lx d H;have y:=f.len;have l1:=Lr t bA.h0 0;have x:=H.len;have z':=Int.zero_add;rw[z'] at m j d;rw[q];refine⟨((O++[RO [] 0]).set _ _).set _ _,cO (.trans (aR (iQ (Ly _ O))) (.trans (aR (iQ ((dI rfl (Bm O) rfl (ma1 rfl)).trans m))) (fj (qY rfl ((dI rfl d rfl rfl).trans j) ?_)))),rJ (rJ il (zc _)) (zc _)⟩;exact if_pos (by rw[Bl];omega)
def QAr:gEq (.tup [.str [46],.str [46]]) (.tup [.str [46],.str [46]])=some (.bl true):=by
 have ok:okE (.tup [.str [46],.str [46]])=true:=by decide +kernel
 show(if(okE _&&okE _)=true then _ else _)=_;rw[ok,Bool.and_self,if_pos rfl,Ig ok]
def MF  (f:Okt T)  (h:∀O,RU T O F T (46,46) [])(O:au):∃d,iM [.str T] O=.ok (.lst (F.map dK)) d/\Kp O d:=by
 obtain⟨d,j,k⟩:=Qpb T f O;obtain⟨t,m,e⟩:=h d 0 _ _;refine⟨d,cO ?_,k⟩;refine .trans (aR (bh rfl)) (.trans (aR (bh rfl)) (.trans (aR (fQ (QC6 ((bw (ma1 rfl)).trans j)) e)) (fj ?_)));rw[iD,bR (aP rfl rfl QAr)];rfl
def sgD:List D->List D
 | []=>[]
 | .tup [_,.str k,v]::r=>if k=bu then v::sgD r else sgD r
 | _::r=>sgD r
theorem MJ(O:au):∀(d:List It3) (acc:List D) (m j f:Option D),b7 (cW 3 (bB (mgN 0) (bB (mgN 1) (bB (mgN 2) dC)))) (az (ak gEq (aa 1) (kS [115,105,103,110]))) (aa 2) (d.map itD) [m,j,f] O acc=.ok (acc++sgD (d.map itD)) O
 | [],acc,m,j,f=>by simp[sgD]
 |x::d,acc,m,j,f=>by
  have i:=λacc=>MJ O d acc (some (.int x.1)) (some (.str x.2.1)) (some (.str x.2.2))
  have t:az (ak _ (aa 1) (kS [115,105,103,110])) [some (.int x.1),some _,some (.str x.2.2)] O=.ok (decide (x.2.1=bu)) O:=By rfl rfl;rw[zg];unfold b7;rw[show cW 3 _ _ _=some [some _,some _,some _] from rfl];dsimp only;rw[t]
  by_cases e:x.2.1=bu
  ·rw[zv e,show sgD (itD x::d.map _)=.str _::sgD _ from if_pos e];exact(i _).trans (by rw[zB];rfl)
  ·rw[zq e,show sgD (itD x::d.map _)=sgD _ from if_neg e];exact i _
def Qyv  (d:Okt T)(O:au):uZ [.str T] O=.ok (.lst (sgD (items 0 T))) O:=by
 obtain⟨m,e,_⟩:=Bt _ T 0 (zc _) λc j=>by have:=d.ok c j;omega
 have f:=d.len;refine cO (fj ?_);exact jT (dj ((bw (ma1 rfl)).trans (QnQ T f O))) (by rw[e,zf];omega) rfl (by rw[e];exact MJ O _ [] _ _ _)
def QBt :Cl λt _ acc=>∀k:Int,(acc.map λx=>st x.1)++sgD (items k t)=F:=My λ{c r k v n p p' acc acc'} h1 hs q i=>by
 rw[jO,h1,<-q]
 rcases hs with⟨rfl,⟨d,rfl⟩⟩ | ⟨rfl,⟨d,rfl⟩⟩ | ⟨rfl,rfl,rfl,rfl⟩ | ⟨rfl,⟨d,rfl,rfl⟩,f⟩
 ·rfl
 ·rfl
 ·rfl
 ·rw[zM,zB];rfl
structure SH(r:List LT)(T:List Nat):Prop where
 l:T.length<=2300
 c:Chr T
 s:∀O,∃O',uR [.lst ((r.map l3).map dK)] O=.ok (.str T) O'/\Kp O O'
 q:∀{Q:List Nat->Nat×Nat->List L3->Prop},Cl Q->∀{t:List Nat}{acc:List L3},acc.length<=500->Q t (46,46) (acc++r.map l3)->Q (T++t) (46,46) acc
def QB7  (G:r.length<=200)(j:∀x∈r,OkL x):∃T,SH r T:=by
 have m:∀x∈r.map l3,x.2.1∈pC:=λx hx=>by
  obtain⟨y,d,rfl⟩:=zz.mp hx;show(if y.1=32 then 46 else y.2.1)∈pC
  split
  ·decide
  ·exact QzL (j y d).2.1
 have cc:=QzD _ 1 _ (λx=>.inl ⟨rfl,rfl⟩) (by rw[zf];omega) (by decide) (by decide) m
 have E:∀c∈46::(r.map l3).map λx=>x.2.1,c∈pC:=λc hx=>by
  rcases zk.mp hx with rfl | hx
  ·decide
  ·obtain⟨y,d,rfl⟩:=zz.mp hx;exact m y d
 have ll:(r.map l3).length<=200:=by rw[zf];omega
 have K:LkT (r.map l3) _:=⟨by omega,zN (Qt0 E) (by decide),Kh _,λz=>by
  have:=(Ar (46::(r.map l3).map λx=>x.2.1) 46).mpr zd
  rw[z] at this
  cases this⟩
 obtain⟨f,F,u,hs⟩:=Qs2 K cc
 have R:LkR _ _:=⟨λx hx=>by
  obtain⟨y,d,rfl⟩:=zz.mp hx
  exact⟨(j y d).1,λz=>if_pos z⟩,λc h=>zv (E c ((Ar _ c).mp h)),λx hx=>zv (m x hx),λx hx=>by
  obtain⟨y,d,rfl⟩:=zz.mp hx
  exact(j y d).2.2⟩
 have h0:=(vz 0 K.ll K.cl K.cn).f0;have len:=Bh f 0 _ (Nat.zero_le _) h0 u
 have cl:=λ{Q} (C:Cl Q) {t}{acc} (I:acc.length<=500) (q:Q t _ _)=>BZ C R f 0 _ acc (Nat.zero_le _) h0 u (by omega) q
 refine⟨txt f,by omega,?_,hs,cl⟩
 have:=cl Qyn (t:=[]) (acc:=[]) (by decide) λ_ z=>nomatch z
 rwa [zG] at this
open Classical in
noncomputable def shT(r:List LT):List Nat:=if h:∃T,SH r T then h.choose else[]
def mY  (f:r.length<=200)(d:∀x∈r,OkL x):SH r (shT r):=by
 unfold shT;rw[dif_pos];exact(QB7 f d).choose_spec
def Chr.okt{T:List Nat}(h:Chr T)(d:T.length<=5000):Okt T:=⟨d,λc f=>.inl (h c f)⟩
def vJ(k:Nat):List Nat:=(Nat.toDigits 10 k).map Char.toNat
def MK  (h:k<=100000):(vJ k).length<=6:=by
 unfold vJ;rw[zf];exact(Nat.length_toDigits_le_iff (by decide) (by decide)).mpr (by omega)
def QAe     (d:m ρ O=.ok (.int (k:Int)) O)(f:k<=100000):aU nZ (aj m ao) ρ O=.ok (.str (vJ k)) O:=gW (ma1 d) (by
 show nZ [.int _]=_;unfold nZ
 dsimp
 rw[if_pos (by omega)]
 rfl)
def ahT(b:Bool)(k:Nat):List Nat:=if b=true then vJ k++[32] else[]
def hdT(N:List (List Nat))(nm W:List Nat):List Nat:=pad (wd N) nm++[if W=kW then 124 else 62]
noncomputable def Cd(b:Bool)(N:List (List Nat))(nm:List Nat)(k:Nat)(x:Du):List Nat:=(ahT b k++hdT N nm x.2)++shT x.1
noncomputable def gJ(b:Bool)(N:List (List Nat))(nm:List Nat):Nat->List Du->List D
 | _,[]=>[]
 |k,x::l=>.str (Cd b N nm (k+1) x)::gJ b N nm (k+1) l
theorem MN   :∀{k:Nat}{l:List Du},(gJ b N nm k l).length=l.length
 | _,[]=>rfl
 |k,x::l=>congrArg _ MN
def MP   (h:k<=100000):(ahT b k).length<=7:=by
 have:=MK h
 unfold ahT
 split
 ·rw[ze];show _+1<=_;omega
 ·exact Nat.zero_le _
def MT(b:Bool){k:Nat}(h:k<=100000)(O:au):uT [.int (k:Int),.bl b] O=.ok (.str (ahT b k)) O:=by
 have:=MK h
 refine cO ?_;refine fj ?_;rw[iD,show bK _ _ O=.ok b O from rfl,aL]
 cases b with
 |true=>exact(if_pos rfl).trans (gH (QAe rfl h) rfl (by show _+1<=_;omega))
 |false=>exact if_neg zA
def rK(b:Bool)(N:List (List Nat))(d hs:Nat):Ob:=.ins "Roll" [("names",dNm N),("numbered",.bl b),("rows",.ob d),("hands",.ob hs)]
theorem M4  {N:List (List Nat)}(hN:Nms N){nm:List Nat}(I:nm∈N){ro L hs:Nat}{R:List D}(a2:Option D):∀(T:List D) (t:List Du) (O:au) (acc:List D) (E C:Option D),O[ro]?=some (rK b N L hs)->O[L]?=some (.ml R)->TE O T t->(∀x∈t,x.1.length<=200)->R.length+acc.length+T.length<100000 ->
  ∃F j f,bj (mgN 4) bAr T [some (.ob ro),some (.str nm),a2,some (.lst acc),E,C] O=.nx [some (.ob ro),some (.str nm),a2,some (.lst (acc++gJ b N nm (R.length+acc.length) t)),j,f] F/\Kp O F
 | [],[],O,acc,E,C,_,_,_,_,_=>⟨O,E,C,by rw[gJ,zG];rfl,λ_ _ h=>h⟩
 |d::T,x::t,O,acc,E,C,hr,hR,⟨⟨n,e,W⟩,hk,ht⟩,hb,ha=>by
  subst e;rw[zw] at ha;have h2:=hb x zd;have J:=mY h2 hk.1;obtain⟨X,Q,u⟩:=J.s O;have w:=wd8 hN;have pl:=BP I;have Y:=MP (b:=b) (k:=R.length+acc.length+1)
  have hl':(hdT N nm x.2).length<=9:=by unfold hdT;rw[ze];show _+1<=_;omega
  have sl:=J.l;obtain⟨F,j,f,P,U⟩:=M4 hN I a2 T t X (acc++[.str _]) _ _ (u _ _ hr) (u _ _ hR) (TE.fr u.fr (λ_ _ _ z=>nomatch z) ht) (λy G=>hb y (zm _ G)) (by rw[ze,zR];omega);rw[ze,zB] at P;refine⟨F,j,f,(fc rfl ?_).trans P,λm y G=>U m y (u m y G)⟩;refine(aR (bh ((bw (maS (add_n (b:=1) (add_n (gW (ma1 (dW rfl hr zd rfl)) (by show bc [aV O _]=_;rw[lF hR];rfl)) (lD rfl)) rfl) (ma1 (dW rfl hr zd rfl)))).trans (MT b (by omega) O)))).trans ?_;rw[yj,qY (gH rfl ((bw (maS rfl (maS (dW rfl hr zd rfl) (ma1 rfl)))).trans (Ml hN I _ O)) (by show _+(hdT N nm _).length<=_;omega)) ((bw (ma1 ((bw (ma1 rfl)).trans (Qxo W (by omega))))).trans Q) (by exact if_pos (by rw[ze];show _+(hdT N nm x.2).length+_<=_;omega))]
  exact ym rfl (by omega)
 | [],_::_,_,_,_,_,_,_,h,_,_=>h.elim
 | _::_,[],_,_,_,_,_,_,h,_,_=>h.elim
def Qyy      (h1:mo ρ O=.ok (.ob n) O)(h2:O[n]?=some (.ml ds))(h3:m ρ O=.ok (.lst es) O)(h4:ds.length+es.length<=1000000):qi mo m ρ O=.nx ρ (O.set n (.ml (ds++es))):=by
 unfold qi;simp_all
def M5   (hN:Nms N)  (u:nm∈N)     (j:O[ro]?=some (rK b N G hs))(m:O[G]?=some (.ml R))(te:TE O T I)(hb:∀x∈I,x.1.length<=200)(F:R.length+T.length<100000):
  ∃f,uV [.ob ro,.str nm,.lst T] O=.ok (.lst (gJ b N nm R.length I)) f/\f[G]?=some (.ml (R++gJ b N nm R.length I))/\Fr O f [G]:=by
 obtain⟨y,E,C,t,d⟩:=M4 hN u _ T I O [] _ _ j m te hb (by omega);have h1:=d _ _ m;refine⟨y.set G _,cO ?_,gs h1,d.fr.trans Fr.set (by simp) (by simp)⟩;refine(aR (bh rfl)).trans ((aR (fQ (dj rfl) t)).trans ?_);exact(aR (Qyy (dW rfl (d _ _ j) zd rfl) h1 rfl (by rw[MN,<-te.len];omega))).trans rfl
def lH(p:Key×D)(r:List (Key×D))(k:Key):cH (p::r) k=if p.1=k then some p.2 else cH r k:=by
 unfold cH
 grind
theorem M6 :∀d:List (Key×D),(d.any λp=>decide (p.1=k))=false->cH d k=none
 | [],_=>rfl
 |p::r,h=>by
  rw[List.any_cons,Bool.or_eq_false_iff] at h;rw[lH,if_neg (of_decide_eq_false h.1)];exact M6 r h.2
theorem Ce  :∀f:List (Key×D),(f.any λp=>decide (p.1=k))=true->cH (f.map λp=>if p.1=k then(p.1,d) else p) k'=if k'=k then some d else cH f k'
 | [],h=>absurd h zA
 |p::r,h=>by
  rw[zg,lH,lH]
  by_cases h1:p.1=k
  ·rw[if_pos h1]
   by_cases h2:k'=k
   ·grind
   ·have h3:¬p.1=k':=λz=>h2 (by rw[<-z,h1])
    rw[if_neg h2,if_neg h3,if_neg h3]
    cases hr:r.any _ with
    |true=>rw[Ce r hr,if_neg h2]
    |false =>
     rw[show r.map _=r from ?_];exact(zY λq j=>if_neg (of_decide_eq_false (List.any_eq_false.mp hr q j |> λz=>by simpa using z))).trans (List.map_id _)
  ·rw[List.any_cons,zq h1] at h;rw[Ce r h]
   grind
theorem M7  :∀f:List (Key×D),cH (f++[(k,d)]) k'=match cH f k' with
  |some x=>some x
  |none=>if k'=k then some d else none
 | []=>by
  rw[zU,lH]
  by_cases h:k'=k
  ·rw[if_pos h.symm];exact(if_pos h).symm
  grind
 |p::r=>by
  rw[List.cons_append,lH,lH,M7]
  grind
def Qur(f:List (Key×D))(k j:Key)(d:D):cH (cX f k d) j=if j=k then some d else cH f j:=by
 unfold cX
 cases h:f.any _ with
 |true=>rw[if_pos rfl,Ce _ h]
 |false =>
  rw[if_neg zA,M7]
  by_cases h1:j=k
  ·subst h1;rw[M6 _ h]
  grind
def QsU(f:List (Key×D))(k:Key)(d:D):(cX f k d).length<=f.length+1:=by
 unfold cX
 grind
def vK        (j:mo ρ O=.ok (.ob n) O)(f:my ρ O=.ok y O)(m:keyOf y=some k)(t:O[n]?=some (.dk u))(hv:cH u k=some d):gw mo my ρ O=.ok d O:=by
 unfold gw;simp_all
def Cg        (hv:E ρ O=.ok d x)(j:mo ρ x=.ok (.ob n) x)(f:my ρ x=.ok y x)(t:keyOf y=some k)(u:x[n]?=some (.dk C))(m:C.length<1000000):lY mo my E ρ O=.nx ρ (x.set n (.dk (cX C k d))):=by
 unfold lY
 grind
structure Ix where
 hd:Nat
 rd:Nat
 mr:Nat
 n:Nat
def kyN(n:List Nat):Key:=.inr (S n)
def mZ  (h:kyN a=kyN b):a=b:=by
 have:=congrArg (λx =>x.cps.toList) (Sum.inr.inj h)
 simpa [lN]
def HX(O:au)(M:Int)(i:Ix)(nm t:List Nat)(c:Bool):Prop:=if c=true then HnC O M i.hd i.rd i.mr i.n nm else HnA O M i.hd i.rd i.mr i.n nm t
def HX.ex  {M:Int}    (h:HX O M i nm t c):(∃c,O[i.hd]?=some (lG nm i.rd i.mr c))/\(∃h p,O[i.rd]?=some (RO h p))/\∃f s,MkA O i.mr i.n M f s:=by
 unfold HX at h;split at h
 ·obtain⟨a,⟨p,b⟩,f,d⟩:=h;exact⟨⟨_,a⟩,⟨_,p,b⟩,f,_,d⟩
 ·exact⟨⟨_,h.1⟩,⟨_,_,h.2.1⟩,_,_,h.2.2⟩
def HX.fr  {M:Int}    {S:List Nat}(h:HX O M i nm t c)(f:Fr O m S)(h1:i.hd∉S)(h2:i.rd∉S)(h3:i.mr∉S)(h4:i.n∉S):HX m M i nm t c:=by
 unfold HX at *
 by_cases e:c=true
 ·rw[if_pos e] at h ⊢;obtain⟨a,⟨p,b⟩,j,d⟩:=h;exact⟨f _ _ h1 a,⟨p,f _ _ h2 b⟩,j,d.fr f h3 h4⟩
 ·rw[if_neg e] at h ⊢;exact⟨f _ _ h1 h.1,f _ _ h2 h.2.1,h.2.2.fr f h3 h4⟩
def up{α:Type}(f:List Nat->α)(a:List Nat)(v:α):List Nat->α:=λn=>if n=a then v else f n
def cu    :up f a v a=v:=if_pos rfl
def cg  {f:List Nat->α}  {v:α}(h:n≠a):up f a v n=f n:=if_neg h
structure RW(O:au)(M:Int)(N G:List (List Nat))(ro rl hs:Nat)(q:List Nat->Ix)(tt:List Nat->List Nat)(cl:List Nat->Bool)(bn:Bool)(K:List D):Prop where
 r:O[ro]?=some (rK bn G rl hs)
 rows:O[rl]?=some (.ml K)
 hs:∃kv,O[hs]?=some (.dk kv)/\kv.length<=N.length/\∀n∈N,cH kv (kyN n)=some (.ob (q n).hd)
 hx:∀n∈N,HX O M (q n) n (tt n) (cl n)
 ne:∀a∈N,∀b∈N,a≠b->(q a).hd≠(q b).hd/\(q a).rd≠(q b).rd/\(q a).mr≠(q b).mr/\(q a).n≠(q b).n
 nl:∀a∈N,(q a).n≠rl
def RW.kp  {M:Int}  {hs:Nat}      (w:RW O M N G ro x hs q u cl bn K)(k:Kp O y):RW y M N G ro x hs q u cl bn K:=by
 have l1:=w.rows;obtain⟨d,m,t,j⟩:=w.hs;exact⟨k _ _ w.r,k _ _ l1,⟨d,k _ _ m,t,j⟩,λn f=>(w.hx n f).fr k.fr (λz=>nomatch z) (λz=>nomatch z) (λz=>nomatch z) (λz=>nomatch z),w.ne,w.nl⟩
def RW.turn{O Z:au}{M:Int}{N G:List (List Nat)}{ro C hs:Nat}{bn:Bool}{K K':List D}{q:List Nat->Ix}{tt:List Nat->List Nat}{cl:List Nat->Bool}(w:RW O M N G ro C hs q tt cl bn K){a t':List Nat}(P:a∈N){c':Bool}{n':Nat}
  (hx:HX Z M ⟨(q a).hd,(q a).rd,(q a).mr,n'⟩ a t' c') (nw:Nw O (q a).n n') (hl:Z[C]?=some (.ml K')) (f:Fr O Z [(q a).hd,(q a).rd,(q a).mr,(q a).n,C]):
  RW Z M N G ro C hs (up q a ⟨(q a).hd,(q a).rd,(q a).mr,n'⟩) (up tt a t') (up cl a c') bn K':=by
 have l1:=w.rows;obtain⟨kv,F,d0,d2⟩:=w.hs;obtain⟨⟨c0,J⟩,⟨h0,p0,I⟩,lw0,s0',u⟩:=(w.hx a P).ex
 have j:∀{m:Nat},m≠(q a).hd->m≠(q a).rd->m≠(q a).mr->m≠(q a).n->m≠C->m∉[(q a).hd,(q a).rd,(q a).mr,(q a).n,C]:=λh1 h2 h3 h4 h5 z=>by
  simp only[zk,List.not_mem_nil,or_false] at z
  rcases z with z | z | z | z | z
  ·exact h1 z
  ·exact h2 z
  ·exact h3 z
  ·exact h4 z
  ·exact h5 z
 refine⟨f _ _ (j (aN "Roll" "Hand" w.r J) (aN "Roll" "Reader" w.r I) (aN "Roll" "Maker" w.r u.1) (aN "Roll" "" w.r u.2) (aN "Roll" "" w.r l1)) w.r,hl,⟨kv,f _ _ (j (aN "" "Hand" F J) (aN "" "Reader" F I) (aN "" "Maker" F u.1) (gZ F u.2 (λz=>nomatch z)) (gZ F l1 (λz=>nomatch z))) F,d0,λn E=>?_⟩,λn E=>?_,λb L d hd W=>?_,λb L=>?_⟩
 ·rw[d2 n E]
  by_cases e:n=a
  ·rw[e,cu]
  ·rw[cg e]
 ·by_cases e:n=a
  ·rw[e,cu,cu,cu];exact hx
  ·rw[cg e,cg e,cg e];obtain⟨⟨c1,Y⟩,⟨h1,p1,X⟩,U,s1,t⟩:=(w.hx n E).ex;obtain⟨T,x,R,Q⟩:=w.ne n E a P e;exact(w.hx n E).fr f (j T (aN "Hand" "Reader" Y I) (aN "Hand" "Maker" Y u.1) (aN "Hand" "" Y u.2) (aN "Hand" "" Y l1)) (j (aN "Reader" "Hand" X J) x (aN "Reader" "Maker" X u.1) (aN "Reader" "" X u.2) (aN "Reader" "" X l1))
    (j (aN "Maker" "Hand" t.1 J) (aN "Maker" "Reader" t.1 I) R (aN "Maker" "" t.1 u.2) (aN "Maker" "" t.1 l1)) (j (aN "" "Hand" t.2 J) (aN "" "Reader" t.2 I) (aN "" "Maker" t.2 u.1) Q (w.nl n E))
 ·by_cases e:b=a
  ·have x:d≠a:=λz=>W (by rw[e,z])
   obtain⟨_,_,U,s1,t⟩:=(w.hx d hd).ex;obtain⟨T,y,R,Q⟩:=w.ne a P d hd (λz=>x z.symm);rw[e,cu,cg x];exact⟨T,y,R,nw _ _ (Ne.symm Q) t.2⟩
  ·by_cases x:d=a
   ·obtain⟨_,_,U,s1,t⟩:=(w.hx b L).ex;obtain⟨T,y,R,Q⟩:=w.ne b L a P e;rw[x,cu,cg e];exact⟨T,y,R,Ne.symm (nw _ _ Q t.2)⟩
   ·rw[cg e,cg x];exact w.ne b L d hd W
 ·by_cases e:b=a
  ·rw[e,cu];exact nw _ _ (Ne.symm (w.nl a P)) l1
  ·rw[cg e];exact w.nl b L
def QtN     (h:O[hs]?=some (.dk d))(hv:cH d (kyN a)=some (.ob hd)):qO [.ob hs,.str a] O=.ok (.ob hd) O:=by
 have k:tV true (mG (aa 1)) (mG (aa 0)) [some (.ob hs),some (.str a)] O=.ok (.bl false) O:=by
  show(match keyOf _,O[hs]? with
   |some k,some (.dk _)=>Res.ok _ O
   | _,_=>.no)=_
  rw[h];show Res.ok (D.bl (true != (cH d (kyN a)).isSome)) O=_;rw[hv];rfl
 refine cO ?_;exact(aR (jU (or_f (Aw (Ay (t:="str") rfl rfl)) (bR k)))).trans (fj (vK rfl rfl rfl h hv))
def M8       (h:a ρ O=.ok x O)(h2:r ρ O=.ok xs d):aj a r ρ O=.ok (x::xs) d:=Kd h h2
def RW.opn{M:Int}{hs:Nat}(w:RW O M N G ro m hs q j cl bn K)(f:a∈N)(d:cl a=false):HnA O M (q a).hd (q a).rd (q a).mr (q a).n a (j a):=by
 have:=w.hx a f
 rw[d] at this;exact this
def RW.nm{M:Int}{hs:Nat}(w:RW O M N G ro E hs q C cl bn K)(j:a∈N)   (f:m ρ O=.ok (.str a) O)  (d:mo ρ O=.ok (.ob ro) O):aC qO (aj (bf ["Roll"] "hands" mo) (aj m ao)) ρ O=.ok (.ob (q a).hd) O:=by
 obtain⟨x,u,y,t⟩:=w.hs;exact(bw (maS (dW d w.r zd rfl) (ma1 f))).trans (QtN u (t a j))
def RW.feed{M:Int}{hs:Nat}(w:RW O M N G ro rl hs q tt cl bn K)(C:1<=M/\M<=200)(hN:Nms G)(Z:a∈G)(y:a∈N)(hc:cl a=false)  (J:Okt (tt a))(Y:Okt p)(t:Okt (tt a++p))(hK:K.length+((tt a).length+p.length)<=90000):
  ∃P I,uW [.ob ro,.str a,.str p] O=.ok (.lst (gJ bn G a K.length (rn M (rn M s0 (sI (tt a))).1 (jI (tt a) p)).2)) P/\RW P M N G ro rl hs (up q a ⟨(q a).hd,(q a).rd,(q a).mr,I⟩) (up tt a (tt a++p)) (up cl a false) bn (K++gJ bn G a K.length (rn M (rn M s0 (sI (tt a))).1 (jI (tt a) p)).2)/\Fr O P [(q a).hd,(q a).rd,(q a).mr,(q a).n,rl]:=by
 have h:=w.opn y hc;have l1:=w.rows;obtain⟨O1,I,T,e1,u,nw,te,L⟩:=Qw2 C h J Y t
 have d:∀{m},m≠(q a).rd->m≠(q a).mr->m≠(q a).n->m∉[(q a).rd,(q a).mr,(q a).n]:=λh1 h2 h3 z=>by simp at z;omega
 have X:=L ro _ (d (aN "Roll" "Reader" w.r h.2.1) (aN "Roll" "Maker" w.r h.2.2.1) (aN "Roll" "" w.r h.2.2.2)) w.r;have l3:=L rl _ (d (aN "" "Reader" l1 h.2.1) (aN "" "Maker" l1 h.2.2.1) (Ne.symm (w.nl a y))) l1;have U:=si t;have j:=(Bx t).1
 have R :=λx hx=>U.i x (zZ _ (by rw[j];exact zH _ hx))
 have dl:=(iR C.1 _ _ (ig C.1 J) R).2
 have jl :=by
  have l:=U.l;rw[ze,j,ze,ze] at l;omega
 obtain⟨W,e2,Q,F⟩:=M5 hN Z X l3 te λx hx=>by have:=vC C.1 _ _ (ig C.1 J) R x hx;omega (by rw[te.len];omega)
 have f:Fr O W [(q a).hd,(q a).rd,(q a).mr,(q a).n,rl]:=L.trans F (by simp) (by simp)
 have E:∀{m},m≠rl->m∉[rl]:=λh=>bI h
 refine⟨W,I,cO ?_,w.turn y ?_ nw Q f,f⟩
 ·exact fj ((dI rfl w.r rfl (M8 rfl (oW ((dI (w.nm y rfl rfl) h.1 rfl (ma1 rfl)).trans e1)))).trans e2)
 ·exact⟨F _ _ (E (aN "Hand" "" u.1 l3)) u.1,F _ _ (E (aN "Reader" "" u.2.1 l3)) u.2.1,u.2.2.fr F (E (aN "Maker" "" u.2.2.1 l3)) (E (nw _ _ (Ne.symm (w.nl a y)) l1))⟩
def QwF{M:Int}  (h:OkS M s)(k:List Nat):∀x∈due M s k,iT x:=by
 intro x hx;unfold due jW at hx;split at hx
 ·rw[zh.mp hx];exact⟨h.ok,.inl rfl⟩
 ·split at hx
  ·split at hx
   ·rw[zh.mp hx];refine⟨λy d=>?_,.inr rfl⟩;unfold bare at d;split at d
    ·cases d
    ·exact h.ok y d
   ·cases hx
  ·cases hx
theorem M9{M:Int}(f:1<=M):∀(d:List It3) (s:Sta),OkS M s->(∀x∈d,Itm x.2.1 x.2.2)->∀x∈(rn M s d).2,iT x
 | [],s,_,_,x,hx=>nomatch hx
 |y::d,s,h,hi,x,hx=>by
  have hx' :=hx
  rcases zx.mp hx' with hx | hx
  ·exact QwF h _ x hx
  ·exact M9 f _ _ (h.stp f (hi y zd)) (λz j=>hi z (zm _ j)) x hx
def Nb{M:Int} :(lstP M t).length<=1:=by
 unfold lstP
 split<;>simp
def RW.close{M:Int}{hs:Nat}(w:RW O M N G ro rl hs q tt cl bn K)(j:1<=M/\M<=200)(hN:Nms G)(hg:a∈G)(u:a∈N)(hc:cl a=false)(y:Okt (tt a))(hK:K.length+(tt a).length<=90000):
  ∃I E,uX [.ob ro,.str a] O=.ok (.lst (gJ bn G a K.length ((rn M (rn M s0 (sI (tt a))).1 (hI (tt a))).2++lstP M (tt a)))) I/\RW I M N G ro rl hs (up q a ⟨(q a).hd,(q a).rd,(q a).mr,E⟩) (up tt a (tt a)) (up cl a true) bn (K++gJ bn G a K.length ((rn M (rn M s0 (sI (tt a))).1 (hI (tt a))).2++lstP M (tt a)))/\Fr O I [(q a).hd,(q a).rd,(q a).mr,(q a).n,rl]:=by
 have h:=w.opn u hc;have l1:=w.rows;obtain⟨O1,E,T,e1,W,nw,te,F⟩:=Qte j h y
 have d:∀{m},m≠(q a).hd->m≠(q a).rd->m≠(q a).mr->m≠(q a).n->m∉[(q a).hd,(q a).rd,(q a).mr,(q a).n]:=λh0 h1 h2 h3 z=>by simp at z;omega
 have X:=F ro _ (d (aN "Roll" "Hand" w.r h.1) (aN "Roll" "Reader" w.r h.2.1) (aN "Roll" "Maker" w.r h.2.2.1) (aN "Roll" "" w.r h.2.2.2)) w.r;have l3:=F rl _ (d (aN "" "Hand" l1 h.1) (aN "" "Reader" l1 h.2.1) (aN "" "Maker" l1 h.2.2.1) (Ne.symm (w.nl a u))) l1;have S:=si y
 have R :=λx hx=>S.i x (zH _ hx)
 have dl:=(iR j.1 _ _ (ig j.1 y) R).2;have Z:=S.l;have ll:=Nb (M:=M) (t:=tt a);rw[ze] at Z
 obtain⟨U,e2,J,C⟩:=M5 hN hg X l3 te (λx hx=>by
  rcases zx.mp hx with hx | hx
  ·have:=vC j.1 _ _ (ig j.1 y) R x hx
   omega
  ·have o:=(iR j.1 _ s0 (vB j.1) S.i).1.len;unfold lstP at hx;split at hx
   ·rw[zh.mp hx];show(rn M s0 _).1.row.length<=200;omega
   ·cases hx) (by rw[te.len,ze];omega)
 have f:Fr O U [(q a).hd,(q a).rd,(q a).mr,(q a).n,rl]:=F.trans C (by simp) (by simp);refine⟨U,E,cO ?_,w.turn u ?_ nw J f,f⟩
 ·exact fj ((dI rfl w.r rfl (M8 rfl (oW ((dI (w.nm u rfl rfl) h.1 rfl rfl).trans e1)))).trans e2)
 ·obtain⟨Q,⟨p,P⟩,Y,L⟩:=W;exact⟨C _ _ (bI (aN "Hand" "" Q l3)) Q,⟨p,C _ _ (bI (aN "Reader" "" P l3)) P⟩,Y,L.fr C (bI (aN "Maker" "" L.1 l3)) (bI (nw _ _ (Ne.symm (w.nl a u)) l1))⟩
def Qp7  (d:O[ro]?=some (rK bn N j hs))(f:O[j]?=some (.ml L)):Aa [.ob ro] O=.ok (.lst L) O :=
 cO (fj (Av (dW rfl d zd rfl) (lF f)))
def Ci{b:MS}   (h:b ρ O=.nx ρ2 d):aY (b ρ O)=.ok .non d:=by rw[h];rfl
def Nf       (h:ma ρ O=.ok ds O)(d:cf (.ob O.length::ds) (O++[.ins c []])=.ok .non f):dh c cf ma ρ O=.ok (.ob O.length) f:=by
 simp_all
def QyM{M:Int}(Q:1<=M/\M<=200)(a:List Nat)(O:au)   (P:ma ρ O=.ok [.str a,.int M] O):
  ∃t n,dh "Hand" yH ma ρ O=.ok (.ob O.length) t/\HnA t M O.length (O.length+1) (O.length+2) n a []/\Kp O t/\O.length<=n:=by
 have Z:(O++[Ob.ins "Hand" []])[O.length]?=some (.ins "Hand" []):=fO;have T:(O++[Ob.ins "Hand" [("name",.str a)]])[O.length]?=some _:=fO
 have l1:(O++[Ob.ins "Hand" [("name",.str a)]]).length=O.length+1:=by simp
 have L:Kp O (O++[Ob.ins "Hand" [("name",.str a)]]):=il
 generalize hO1:O++[Ob.ins "Hand" [("name",.str a)]]=f at *
 have r:=λρ=>Ly ρ f
 rw[l1] at r;have a2:(f++[RO [] 0])[O.length]?=some _:=il _ _ T
 have Y:(f++[RO [] 0])[O.length+1]?=some (RO [] 0):=by rw[<-l1];exact fO
 have R:Fr (f++[RO [] 0]) ((f++[RO [] 0]).set O.length (.ins "Hand" [("name",.str a),("reader",.ob (O.length+1))])) [O.length]:=Fr.set
 have I:((f++[RO [] 0]).set O.length (.ins "Hand" [("name",.str a),("reader",.ob (O.length+1))])).length=O.length+2:=by grind
 have J:Kp O ((f++[RO [] 0]).set O.length (.ins "Hand" [("name",.str a),("reader",.ob (O.length+1))])):=rJ (L.trans il) (zc _);have X:=gs (y:=.ins "Hand" [("name",.str a),("reader",.ob (O.length+1))]) a2;have W:=R _ _ (bI (by omega)) Y
 generalize hO2:(f++[RO [] 0]).set O.length _=O2 at *
 obtain⟨m,n,x,u,G,F,j⟩:=Qz8 M Q O2 [some (.ob O.length),some (.str a),some (.int M)] (λ_=>rfl);rw[I] at x u F;have E:=j _ _ X;have f4:Fr m (m.set O.length (.ins "Hand" [("name",.str a),("reader",.ob (O.length+1)),("maker",.ob (O.length+2))])) [O.length]:=Fr.set;have C:=gs (y:=.ins "Hand" [("name",.str a),("reader",.ob (O.length+1)),("maker",.ob (O.length+2))]) E;have f5:Fr _ ((m.set O.length (.ins "Hand" [("name",.str a),("reader",.ob (O.length+1)),("maker",.ob (O.length+2))])).set O.length (lG a (O.length+1) (O.length+2) false)) [O.length]:=Fr.set;have f6:=f4.trans f5 (U:=[O.length]) (λ_ h=>h) (λ_ h=>h)
 refine⟨_,n,Nf P (Ci (b:=yG) (ρ2:=[some (.ob O.length),some (.str a),some (.int M)]) ?_),⟨gs C,f6 _ _ (bI (by omega)) (j _ _ W),f6 _ _ (bI (by omega)) u,f6 _ _ (bI (by omega)) G⟩,rJ (rJ (J.trans j) (zc _)) (zc _),by omega⟩;unfold yG;refine(aR (gY (n:=O.length) (d:=.str a) rfl rfl Z zd (by decide))).trans ?_;rw[qZ];show aq _ _ _ (O++[Ob.ins "Hand" [("name",.str a)]])=_;rw[hO1];refine(aR (gY (n:=O.length) (r _) rfl a2 zd (by show 1<900;decide))).trans ?_;show aq _ _ _ ((f++[RO [] 0]).set O.length (.ins "Hand" [("name",.str a),("reader",.ob (O.length+1))]))=_
 rw[hO2];refine(aR (gY (n:=O.length) x rfl E zd (by show 2<900;decide))).trans ?_;exact gY (n:=O.length) (d:=.bl false) rfl rfl C zd (by show 3<900;decide)
def QAM(b:Bool)(s:List Nat)(ds:List D):gIn b (.str s) (.lst ds)=if(gm (.str s)&&ds.all gm)=true then some (.bl (b ^^ ds.any λy=>eqF y (.str s))) else none:=by
 cases s with
 |nil=>rfl
 |cons a t=>cases t<;>rfl
def QxF(a b:List Nat):eqF (.str a) (.str b)=decide (a=b):=by
 show decide _=_
 by_cases h:a=b
 ·grind
 ·rw[zq h,zq λz=>h (mZ (congrArg Sum.inr z))]
def QBg{l:List (List Nat)}  (h:s∉l):gIn false (.str s) (.lst (l.map D.str))=some (.bl false):=by
 rw[QAM,if_pos]
 ·rw[Bool.false_xor,(List.any_eq_false.mpr λd hd=>by
   obtain⟨x,hx,rfl⟩:=zz.mp hd;rw[QxF,zq (λz=>h (by grind))]
   simp)]
 ·rw[show gm _=true from rfl,Bool.true_and,jj];intro d hd;obtain⟨r,f,rfl⟩:=zz.mp hd;rfl
theorem Ng  (h:Nms N)(O:au):∀(R P:List (List Nat)) (m j:Option D),N=P++R->∃f d,bj (cW 2 (bB (mgN 1) (bB (mgN 2) dC))) bCn (cQ P.length (R.map D.str)) [some (dNm N),m,j] O=.nx [some (dNm N),f,d] O
 | [],P,m,j,_=>⟨m,j,rfl⟩
 |n::R,P,m,j,e=>by
  obtain⟨f,d,q⟩:=Ng h O R (P++[n]) _ _ (by rw[e];simp);rw[ze] at q;have nd:=h.nd;rw[e,jg] at nd
  have t :=λz=>nd.2.2 n z n zd rfl
  have u:n∈N:=by rw[e];simp
  have cut:mSl (aa 0) moN (moS (aa 1)) [some (dNm N),some (.int P.length)] O=.ok (.lst (P.map D.str)) O:=by
   show ofO (gSl (aV O (.lst _)) _ _) O=_;rw[fH,Hu,jF,Lz,e,zM,List.take_left' (zf _)]
  refine⟨f,d,(fc rfl ?_).trans q⟩;exact(aR (not_no ((bw (ma1 rfl)).trans (Qya (h.ok n u) O)))).trans (jU (bR (aP rfl cut (QBg t))))
def QwD  (h:Nms N)(O:au):z8 [dNm N] O=.ok .non O:=by
 obtain⟨j,f,q⟩:=Ng h O N [] _ _ rfl;refine Ci (ρ:=[some _,none,none]) (ρ2:=[some (dNm N),j,f]) ?_;have l4:=h.l4;have l1 :=List.length_pos_iff.mpr h.ne
 have m:fV gLe gLe (kI 1) (aU bc (aj (aa 0) ao)) (kI 6) [some (dNm N),none,none] O=.ok (.bl true) O:=by
  rw[Hk,show kI _ _ O=.ok _ O from rfl,aL,lD rfl,aL,zf];show chF (some _) O _=_;rw[zv (by omega)];show Res.ok _ O=_
  grind
 refine(aR (jU (or_f (Aw (Ay (d:=dNm N) rfl rfl)) ?_))).trans (fQ ?_ q)
 ·rw[mH,bR m];rfl
 ·rfl
def RW.lt{M:Int}{hs:Nat}(w:RW O M N G ro C hs q y cl bn K)  (hb:b∈N):(q b).hd<O.length/\(q b).rd<O.length/\(q b).mr<O.length/\(q b).n<O.length:=by
 obtain⟨⟨x,j⟩,⟨h1,u,f⟩,m,t,d⟩:=(w.hx b hb).ex;exact⟨dH j,dH f,dH d.1,dH d.2⟩
def RW.add{M:Int}{hs:Nat}(w:RW O M N G ro rl hs q tt cl bn K)(W:a∉N)   (hx:HnA O1 M i.hd i.rd i.mr i.n a [])(k:Kp O O1)(g1:O.length<=i.hd)(Z:O.length<=i.rd)(Y:O.length<=i.mr)(X:O.length<=i.n)  (F:O[hs]?=some (.dk kv)):
  RW (O1.set hs (.dk (cX kv (kyN a) (.ob i.hd)))) M (N++[a]) G ro rl hs (up q a i) (up tt a []) (up cl a false) bn K:=by
 have l1:=w.rows;obtain⟨R,u,d0,L⟩:=w.hs;rw[F] at u;cases u;have x:=w.kp k;have j:=k _ _ F;have f:Fr O1 (O1.set hs (.dk (cX kv (kyN a) (.ob i.hd)))) _:=Fr.set;have pl:=QsU kv (kyN a) (.ob i.hd);have Q:=dH l1;refine⟨f _ _ (bI (aN "Roll" "" x.r j)) x.r,f _ _ (bI (gZ (k _ _ l1) j λz=>nomatch z)) (k _ _ l1),⟨_,gs j,by rw[ze,zR];omega,λn y=>?_⟩,λn y=>?_,λb C d hd t=>?_,λb C=>?_⟩
 ·rw[Qur]
  by_cases e:n=a
  ·rw[e,if_pos rfl,cu]
  ·rw[if_neg λz=>e (mZ z),cg e];exact L n ((zx.mp y).resolve_right λz=>e (zh.mp z))
 ·by_cases e:n=a
  ·rw[e,cu,cu,cu];exact⟨f _ _ (bI (aN "Hand" "" hx.1 j)) hx.1,f _ _ (bI (aN _ "" hx.2.1 j)) hx.2.1,hx.2.2.fr f (bI (aN "Maker" "" hx.2.2.1 j)) (bI (gZ hx.2.2.2 j λz=>nomatch z))⟩
  ·rw[cg e,cg e,cg e];have h:=x.hx n ((zx.mp y).resolve_right λz=>e (zh.mp z));obtain⟨⟨c1,J⟩,⟨h1,U,I⟩,P,T,E⟩:=h.ex;exact h.fr f (bI (aN "Hand" "" J j)) (bI (aN "Reader" "" I j)) (bI (aN "Maker" "" E.1 j)) (bI (gZ E.2 j λz=>nomatch z))
 ·by_cases e:b=a
  ·have m:d≠a:=λz=>t (by rw[e,z])
   have:=w.lt ((zx.mp hd).resolve_right λz=>m (zh.mp z))
   rw[e,cu,cg m];omega
  ·have hb':=(zx.mp C).resolve_right λz=>e (zh.mp z)
   have:=w.lt hb'
   by_cases m:d=a
   ·rw[m,cu,cg e];omega
   ·rw[cg e,cg m];exact w.ne b hb' d ((zx.mp hd).resolve_right λz=>m (zh.mp z)) t
 ·by_cases e:b=a
  ·rw[e,cu];omega
  ·rw[cg e];exact w.nl b ((zx.mp C).resolve_right λz=>e (zh.mp z))
theorem Nh{M:Int}(F:1<=M/\M<=200){G:List (List Nat)}{ro E hs:Nat}(a1 j:Option D):∀(R P:List (List Nat)) (O:au) (q:List Nat->Ix) (f:Option D),(P++R).Nodup->(P++R).length<=100->RW O M P G ro E hs q (λ_=>[]) (λ_=>false) bn [] ->
  ∃t u d,bj (mgN 4) bRi (R.map D.str) [some (.ob ro),a1,some (.int M),j,f] O=.nx [some (.ob ro),a1,some (.int M),j,d] t/\RW t M (P++R) G ro E hs u (λ_=>[]) (λ_=>false) bn []
 | [],P,O,q,f,_,_,w=>⟨O,q,f,rfl,by rw[zG];exact w⟩
 |n::R,P,O,q,f,nd,hl,w=>by
  obtain⟨W,I,X⟩:=w.hs;obtain⟨Y,m,e,hx,k,L⟩:=QyM F n O (ma:=aj (aa 4) (aj (aa 2) ao)) (ρ:=[some _,a1,some _,j,some _]) rfl
  have J :=λz=>(jg.mp nd).2.2 n z n zd rfl
  have C:=w.add J (i:=⟨O.length,O.length+1,O.length+2,m⟩) hx k (zc _) (Nat.le_add_right _ _) (Nat.le_add_right _ _) L I
  have T:up (λ_ =>([]:List Nat)) n []=λ_=>[]:=by funext x;unfold up;split<;>rfl
  have Q:up (λ_ =>false) n false=λ_=>false:=by funext x;unfold up;split<;>rfl
  rw[T,Q] at C;obtain⟨t,u,d,U,y⟩:=Nh F a1 j R _ _ _ _ (by rw[zB];exact nd) (by rw[zB];exact hl) C;rw[zB] at y;rw[ze] at hl;refine⟨t,u,d,(fc rfl (Cg e (dW rfl (k _ _ w.r) zd rfl) rfl rfl (k _ _ I) (by omega))).trans U,y⟩
def Qx0{M:Int}(J:1<=M/\M<=200)  (h:Nms N)     (I:ma ρ O=.ok [dNm N,.int M,.bl bn] O):∃m E hs q,dh "Roll" z9 ma ρ O=.ok (.ob O.length) m/\RW m M N N O.length E hs q (λ_=>[]) (λ_=>false) bn []:=by
 have T:(O++[Ob.ins "Roll" []])[O.length]?=some _:=fO;have a1:(O++[Ob.ins "Roll" [("names",dNm N)]])[O.length]?=some _:=fO;have a2:(O++[Ob.ins "Roll" [("names",dNm N),("numbered",.bl bn)]])[O.length]?=some _:=fO
 have t:(O++[Ob.ins "Roll" [("names",dNm N),("numbered",.bl bn)]]).length=O.length+1:=by simp
 generalize hO2:O++[Ob.ins "Roll" [("names",dNm N),("numbered",.bl bn)]]=f at *
 have x:(f++[Ob.ml []])[O.length]?=some _:=il _ _ a2
 have R:(f++[Ob.ml []])[O.length+1]?=some (.ml []):=by rw[<-t];exact fO
 have f3:Fr _ ((f++[Ob.ml []]).set O.length (.ins "Roll" [("names",dNm N),("numbered",.bl bn),("rows",.ob (O.length+1))])) _:=Fr.set
 have l3:((f++[Ob.ml []]).set O.length (.ins "Roll" [("names",dNm N),("numbered",.bl bn),("rows",.ob (O.length+1))])).length=O.length+2:=by rw[jb,ze,t];rfl
 have Q:=gs (y:=.ins "Roll" [("names",dNm N),("numbered",.bl bn),("rows",.ob (O.length+1))]) x;have d3:=f3 _ _ (bI (by omega)) R
 generalize hO3:(f++[Ob.ml []]).set O.length _=j at *
 have u:(j++[Ob.dk []])[O.length]?=some _:=il _ _ Q;have P:(j++[Ob.dk []])[O.length+1]?=some (.ml []):=il _ _ d3
 have L:(j++[Ob.dk []])[O.length+2]?=some (.dk []):=by rw[<-l3];exact fO
 have f5:Fr _ ((j++[Ob.dk []]).set O.length (rK bn N (O.length+1) (O.length+2))) _:=Fr.set;have w:RW _ M [] N O.length _ _ (λ_=>⟨0,0,0,0⟩) (λ_=>[]) (λ_=>false) bn []:=
  ⟨gs u,f5 _ _ (bI (by omega)) P,⟨[],f5 _ _ (bI (by omega)) L,Nat.zero_le _,λ_ z=>nomatch z⟩,λ_ z=>(nomatch z),λ_ z=>(nomatch z),λ_ z=>(nomatch z)⟩
 have l4:=h.l4;obtain⟨m,F,G,e,C⟩:=Nh J _ _ N [] _ _ none h.nd (by rw[zU];omega) w;refine⟨m,O.length+1,O.length+2,F,Nf I (Ci (ρ2:=[some (.ob O.length),some (dNm N),some (.int M),some (.bl bn),G]) ?_),C⟩;refine(aR (rH ((bw (ma1 rfl)).trans (QwD h _)))).trans ?_;refine(aR (gY (Av rfl rfl) rfl T zd (by decide))).trans ?_;rw[qZ];refine(aR (gY rfl rfl a1 zd (by show 1<900;decide))).trans ?_;rw[qZ];show aq _ _ _ (O++[Ob.ins "Roll" [("names",dNm N),("numbered",.bl bn)]])=_;rw[hO2];refine(aR (gY (d:=.ob (O.length+1)) (by rw[<-t];rfl) rfl x zd (by show 2<900;decide))).trans ?_
 show aq _ _ _ ((f++[Ob.ml []]).set O.length (.ins "Roll" [("names",dNm N),("numbered",.bl bn),("rows",.ob _)]))=_;rw[hO3];refine(aR (gY (d:=.ob (O.length+2)) (by rw[<-l3];rfl) rfl u zd (by show 3<900;decide))).trans ?_;exact fQ (dj rfl) e
def hD(N:List (List Nat))(y:List Nat×List Nat):D:=.tup [.str (hdT N y.1 y.2),.str y.1,.str y.2]
def hs(N:List (List Nat)):List (List Nat×List Nat):=N.flatMap λn=>[(n,bC),(n,cj)]
theorem Ni(hN:Nms N)(O:au):∀(M:List (List Nat)) (acc:List D) (f d:Option D),(∀n∈M,n∈N)->acc.length+2 * M.length<=1000->∃t j,bj (mgN 2) bH (M.map D.str) [some (dNm N),some (.lst acc),f,d] O=.nx [some (dNm N),some (.lst (acc++(hs M).map (hD N))),t,j] O
 | [],acc,f,d,_,_=>⟨f,d,by rw[show(hs []).map _=[] from rfl,zG];rfl⟩
 |n::M,acc,f,d,hM,hl=>by
  rw[zw] at hl
  have one:∀(W ) (acc ),acc.length<1000->eG 1 (aX (aj (aC _ (aj (aa 2) (aj (aa 0) (aj (aa 3) _)))) (aj (aa 2) (aj (aa 3) _)))) [some _,some (.lst acc),some _,some _] O=.nx _ O:=λW acc x=>u6 (qX (maS ((bw (maS rfl (maS rfl (ma1 rfl)))).trans (Ml hN (hM n zd) W O)) (maS rfl (ma1 rfl))) (by show 3<=_;decide)) rfl (by omega)
  obtain⟨t,j,e⟩:=Ni hN O M (acc++[hD N (n,bC)]++[hD N (n,cj)]) _ _ (λm u=>hM m (zm _ u)) (by rw[ze,ze];show _+1+1+_<=_;omega);refine⟨t,j,(fc rfl (fQ rfl (.trans (fc rfl (one _ _ (by omega))) (.trans (fc rfl (one _ _ (by rw[ze];show _+1<_;omega))) rfl)))).trans (e.trans ?_)⟩;rw[zB,zB];rfl
def QvO(hN:Nms N)(O:au):Ab [dNm N] O=.ok (.lst ((hs N).map (hD N))) O:=by
 have:=hN.l4
 obtain⟨f,d,e⟩:=Ni hN O N [] _ _ (λ_ z=>z) (by show 0+_<=_;omega);exact cO (.trans (aR (bh rfl)) (.trans (aR (fQ (dj rfl) e)) rfl))
def Qwk   (f:NOk n)(j:NOk a)(e:pad w n=pad w a):n=a:=by
 have q:∀{n},NOk n->(pad w n).filter _=n:=λ{n} h=>by
  unfold pad;rw[List.filter_append,List.filter_eq_self.mpr λc d=>zv (h.ok c d).1,List.filter_eq_nil_iff.mpr λc d=>by rw[(List.mem_replicate.mp d).2];decide,zG]
 rw[<-q f,e,q j]
def vL  (d:n∈N):(hdT N n W).length=wd N+1:=by
 unfold hdT;rw[ze,BP d];rfl
def QyO(hN:Nms N)  (j:n∈N)(m:a∈N)(f:w=bC\/w=cj)(t:W=bC\/W=cj)(e:hdT N n w=hdT N a W):n=a/\w=W:=by
 obtain⟨u,d⟩:=List.append_inj' e rfl;refine⟨Qwk (hN.ok n j) (hN.ok a m) u,?_⟩
 rcases f with rfl | rfl<;>rcases t with rfl | rfl
 ·rfl
 ·exact absurd d (by decide)
 ·exact absurd d (by decide)
 ·rfl
theorem Nj(hN:Nms N){A T a W:List Nat}{F:List D}(hA:A.length<=10)(Z:T.length<=5000)(m:a∈N)(G:W=bC\/W=cj)(t:∀O,∃d,iM [.str T] O=.ok (.lst F) d/\Kp O d)(j:D)(O:au):∀(L:List (List Nat×List Nat)) (C x u f:Option D),(∀y∈L,y.1∈N/\(y.2=bC\/y.2=cj))->(a,W)∈L ->
  ∃d,bj (cW 3 (bB (mgN 3) (bB (mgN 4) (bB (mgN 5) dC)))) bRR (L.map (hD N)) [some (.str ((A++hdT N a W)++T)),some (.str A),some j,C,x,u,f] O=.rt (.tup [.str a,.lst F,.str W]) d/\Kp O d
 |y::L,C,x,u,f,hL,hm=>by
  obtain⟨E,Y⟩:=hL y zd;have h1:=vL (W:=y.2) E;have h2:=vL (W:=W) m;have w8:=wd8 hN
  have I:∀f,ak aH (aa 1) (aa 3) [some (.str ((A++hdT N a W)++T)),some (.str A),some j,some (.str (hdT N y.1 y.2)),some (.str y.1),some (.str y.2),f] O=.ok _ O:=λ_=>gH rfl rfl (by omega)
  have tk:((A++hdT N a W)++T).take (A++hdT N y.1 y.2).length=A++hdT N a W:=by rw[show(A++hdT N y.1 y.2).length=(A++hdT N a W).length by rw[ze,ze,h1,h2],List.take_left]
  have st:bK (nR (mG (aa 0)) (ak aH (aa 1) (aa 3))) [some (.str ((A++hdT N a W)++T)),some (.str A),some j,some (.str (hdT N y.1 y.2)),some (.str y.1),some (.str y.2),f] O=.ok (decide (A++hdT N a W=A++hdT N y.1 y.2)) O:=by
   rw[jH,QsZ,show mG (aa 0) _ O=.ok _ O from rfl,aL,I];show ofB (lO (aV O (.bl _))) O=_;rw[tk];rfl
  by_cases e:(a,W)=y
  ·subst e;obtain⟨d,R,Q⟩:=t O;refine⟨d,QBv rfl ?_,Q⟩;exact .trans (eZ (st.trans (by rw[zv rfl]))) (.trans (aR (iQ (.trans (bw (ma1 ((vG rfl (vD (rE (I f) (by rw[ze];omega))) rfl (by rw[ze,ze];omega)).trans (by rw[LC,List.drop_left])))) (cO (fj ((bw (ma1 rfl)).trans R)))))) rfl)
  ·have ne:¬A++hdT N a W=A++hdT N y.1 y.2:=λz=>by
    obtain⟨P,J⟩:=QyO hN m E G Y (List.append_cancel_left z);exact e (Prod.ext P J)
   obtain⟨d,e2,U⟩:=Nj hN hA Z m G t j O L _ _ _ f (λz X=>hL z (zm _ X)) ((zk.mp hm).resolve_left e);exact⟨d,(fc rfl (jU (st.trans (by rw[zq ne])))).trans e2,U⟩
def Nk  :y∈hs N↔y.1∈N/\(y.2=bC\/y.2=cj):=by
 unfold hs;rw[List.mem_flatMap];constructor
 ·rintro⟨n,f,d⟩;simp   at d
  rcases d with rfl | rfl
  ·exact⟨f,.inl rfl⟩
  ·exact⟨f,.inr rfl⟩
 ·rintro⟨h1,h2⟩;refine⟨y.1,h1,?_⟩
  rcases h2 with h2 | h2
  ·rw[show y=(y.1,bC) from Prod.ext rfl h2];exact zd
  ·rw[show y=(y.1,cj) from Prod.ext rfl h2];exact zm _ zd
def QBm(hN:Nms N)   (C:A.length<=10)(x:T.length<=5000)(f:a∈N)(j:W=bC\/W=cj)(m:∀O,∃d,iM [.str T] O=.ok (.lst F) d/\Kp O d)(O:au):∃d,Ac [.str ((A++hdT N a W)++T),.str A,.lst ((hs N).map (hD N))] O=.ok (.tup [.str a,.lst F,.str W]) d/\Kp O d:=by
 obtain⟨d,e,k⟩:=Nj hN C x f j m _ O _ _ _ _ _ (λy u=>Nk.mp u) (Nk.mpr ⟨f,j⟩);refine⟨d,cO ?_,k⟩;exact .trans (aR (jU (Aw (Ay (t:="str") rfl rfl)))) (uC (fQ (dj rfl) e))
structure Tab(N:List (List Nat))(O:au)(d:Nat)(f:List Nat->Nat)(X:List Nat->List D)(B:Nat):Prop where
 dk:O[d]?=some (.dk (N.map λn=>(kyN n,.ob (f n))))
 ml:∀n∈N,O[f n]?=some (.ml (X n))
 inj:∀n∈N,∀m∈N,f n=f m->n=m
 lo:B<=d/\∀n∈N,B<=f n
def KpB(B:Nat)(O d:au):Prop:=∀(j:Nat) (x:Ob),j<B->O[j]?=some x->d[j]?=some x
def KpB.trans   (a:KpB B O m)(b:KpB B m f):KpB B O f:=λj y d h=>b j y d (a j y d h)
def Kp.b  (k:Kp O d)(B:Nat):KpB B O d:=λj x _ h=>k j x h
def Nm    (h:B<=n):KpB B O (O.set n y):=λj x d hx=>by rw[zj (by omega)];exact hx
def Tab.kp(T:Tab N O d f X B)(h:Kp O m):Tab N m d f X B:=⟨h _ _ T.dk,λn j=>h _ _ (T.ml n j),T.inj,T.lo⟩
def Tab.ne(T:Tab N O d f X B)  (j:n∈N):f n≠d:=gZ (T.ml n j) T.dk λz=>nomatch z
def Tab.app(T:Tab N O d f X B)  (t:n∈N)(v:List D):Tab N (O.set (f n) (.ml v)) d f (up X n v) B:=by
 refine⟨?_,λm j=>?_,T.inj,T.lo⟩
 ·rw[zj (T.ne t)];exact T.dk
 ·by_cases e:m=n
  ·subst e;rw[cu];exact gs (T.ml m j)
  ·rw[cg e,zj λz=>e (T.inj m j n t z.symm)];exact T.ml m j
theorem Np(f:List Nat->Nat) :∀{N:List (List Nat)},n∈N->cH (N.map λn=>(kyN n,D.ob (f n))) (kyN n)=some (.ob (f n))
 |m::N,h=>by
  rw[zg,lH]
  by_cases e:m=n
  ·rw[if_pos (by rw[e]),e]
  ·rw[if_neg λz=>e (mZ z)];exact Np f ((zk.mp h).resolve_left λz=>e z.symm)
def Tab.sub(T:Tab N O d f X B)  (j:n∈N)   (h1:mo ρ O=.ok (.ob d) O)(h2:my ρ O=.ok (.str n) O):gw mo my ρ O=.ok (.ob (f n)) O:=vK h1 h2 rfl T.dk (Np f j)
def Qvh{N:List (List Nat)}{f:List Nat->Nat}  (j:n∉N)(d:D):cX (N.map λm=>(kyN m,D.ob (f m))) (kyN n) d=(N.map λm=>(kyN m,D.ob (f m)))++[(kyN n,d)]:=by
 unfold cX;rw[if_neg];intro z;obtain⟨p,h1,h2⟩:=List.any_eq_true.mp z;obtain⟨m,t,rfl⟩:=zz.mp h1;exact j (mZ (zP h2) ▸ t)
def Tab.new(T:Tab N O d f (λ_=>[]) B)  (y:n∉N)(C:B<=O.length):Tab (N++[n]) ((O++[Ob.ml []]).set d (.dk ((N.map λm=>(kyN m,D.ob (f m)))++[(kyN n,D.ob O.length)]))) d (up f n O.length) (λ_=>[]) B:=by
 have hd:=dH T.dk
 have q:∀x∈N,up f n O.length x=f x/\f x<O.length:=λx hx=>⟨cg λz=>y (z ▸ hx),dH (T.ml x hx)⟩
 refine⟨?_,λm j=>?_,λa u b t e=>?_,T.lo.1,λm j=>?_⟩
 ·rw[zQ (by rw[ze];omega),zM,show(N.map λm=>(kyN m,D.ob (up f n _ m)))=N.map _ from zY λm j=>by rw[(q m j).1],zg,zX,cu]
 ·rcases zx.mp j with j | j
  ·rw[(q m j).1,zj λz=>T.ne j z.symm,zF (q m j).2];exact T.ml m j
  ·rw[zh.mp j,cu,zj (by omega)];exact fO
 ·rcases zx.mp u with u | u<;>rcases zx.mp t with t | t
  ·rw[(q a u).1,(q b t).1] at e;exact T.inj a u b t e
  ·rw[zh.mp t,cu,(q a u).1] at e
   have:=(q a u).2
   omega
  ·rw[zh.mp u,cu,(q b t).1] at e
   have:=(q b t).2
   omega
  ·rw[zh.mp u,zh.mp t]
 ·rcases zx.mp j with j | j
  ·rw[(q m j).1];exact T.lo.2 m j
  ·rw[zh.mp j,cu];exact C
theorem Nq{E d3 dn:D}{d B:Nat}{y x u:Option D}:∀(M P:List (List Nat)) (O:au) (f:List Nat->Nat) (m:Option D),Tab P O d f (λ_=>[]) B->B<=O.length->(P++M).Nodup->P.length+M.length<=100 ->
  ∃j C t,Tab (P++M) j d C (λ_=>[]) B/\KpB B O j/\bj (mgN 5) bP (M.map D.str) [some dn,some d1,some E,some d3,some (.ob d),m,y,x,u] O=.nx [some dn,some d1,some E,some d3,some (.ob d),t,y,x,u] j
 | [],P,O,f,m,T,_,_,_=>⟨O,f,m,by rw[zG];exact T,λ_ _ _ h=>h,rfl⟩
 |n::M,P,O,f,m,T,hB,nd,hl=>by
  have F :=λz=>(jg.mp nd).2.2 n z n zd rfl
  rw[zw] at hl;obtain⟨j,C,t,G,k,e⟩:=Nq M _ _ _ _ (T.new F hB) (by rw[jb,ze];omega) (by rw[zB];exact nd) (by rw[ze,zR];omega);rw[zB] at G;refine⟨j,C,t,G,((il.b B).trans (Nm T.lo.1)).trans k,(fc (ρ1:=[some dn,some d1,some E,some d3,some _,some _,y,x,u]) rfl ((Cg (k:=kyN n) rfl rfl rfl rfl (il _ _ T.dk) (by rw[zf];omega)).trans ?_)).trans e⟩;rw[Qvh F]
def ent(x:Du):D:=.tup [.lst ((x.1.map l3).map dK),.str x.2]
noncomputable def cR(b:Bool)(N:List (List Nat)):Nat->List (List Nat×Du)->List D
 | _,[]=>[]
 |k,r::l=>.str (Cd b N r.1 (k+1) r.2)::cR b N (k+1) l
theorem m5  :∀{k:Nat}{l:List (List Nat×Du)},(cR b N k l).length=l.length
 | _,[]=>rfl
 |k,x::l=>congrArg _ m5
def vM(N:List (List Nat))(r:List Nat×Du):Prop:=r.1∈N/\iT r.2/\r.2.1.length<=200
def ofN(R:List (List Nat×Du))(n:List Nat):List D:=(R.filter λr=>decide (r.1=n)).map λr=>ent r.2
def Cj  (t:r.length<=200)(m:∀x∈r,OkL x)(O:au):∃d,iM [.str (shT r)] O=.ok (.lst ((r.map l3).map dK)) d/\Kp O d:=by
 have s:=mY t m;refine MF (s.c.okt (by have:=s.l;omega)) (λO=>?_) O
 have:=s.q (Ca (T:=shT r) (O:=O)) (acc:=[]) (by decide) λk j f=>⟨j,f,by rw[gD];rfl⟩
 rwa [zG] at this
theorem Nr  (hN:Nms N)(b:Bool)(C:D){d B:Nat}{f:List Nat->Nat}:∀(R:List (List Nat×Du)) (k:Nat) (O:au) (X:List Nat->List D) (j y x u:Option D),Tab N O d f X B->(∀r∈R,vM N r)->k+R.length<=90000->(∀n,(X n).length+R.length<=90000) ->
  ∃t G F E,bj (cW 2 (bB (mgN 6) (bB (mgN 7) dC))) bE (cQ k (cR b N k R)) [some (dNm N),some C,some (.bl b),some (.lst ((hs N).map (hD N))),some (.ob d),j,y,x,u] O=.nx [some (dNm N),some C,some (.bl b),some (.lst ((hs N).map (hD N))),some (.ob d),j,G,F,E] t/\Tab N t d f (λn=>X n++ofN R n) B/\KpB B O t
 | [],k,O,X,j,y,x,u,T,_,_,_=>⟨O,y,x,u,rfl,by simpa [ofN] ,λ_ _ _ h=>h⟩
 |r::R,k,O,X,j,y,x,u,T,hR,hk,hX=>by
  rw[zw] at hk;obtain⟨h1,h2,h3⟩:=hR r zd;have al:=MP (b:=b) (k:=k+1);have sl:=(mY h3 h2.1).l;obtain⟨O1,Z,J⟩:=QBm hN (A:=ahT b (k+1)) (by omega) (by omega) h1 h2.2 (Cj h3 h2.1) O;have I:=T.kp J;have P:=hX r.1;rw[zw] at P;have W:=Br (d:=ent r.2) (m:=aX (aj (ak gIx (aa 8) (kI 1)) (aj (ak gIx (aa 8) (kI 2)) ao))) (I.sub h1 (mo:=aa 4) (my:=ak gIx (aa 8) (kI 0)) (ρ:=[some (dNm N),some C,some (.bl b),some (.lst ((hs N).map (hD N))),some (.ob d),j,some (.int k),some (.str (Cd b N r.1 (k+1) r.2)),some (.tup [.str r.1,.lst _,.str r.2.2])]) rfl rfl) (I.ml _ h1) rfl (by omega)
  obtain⟨t,G,F,E,Y,L,Q⟩:=Nr hN b C R (k+1) _ _ j _ _ _ (I.app h1 (X r.1++[ent r.2])) (λz U=>hR z (zm _ U)) (by omega) λn=>by
   have:=hX n
   rw[zw] at this
   by_cases e:n=r.1
   ·rw[e,cu,ze];show _+1+_<=_;omega
   ·rw[cg e];omega
  refine⟨t,G,F,E,(fc rfl (.trans (aR (iQ ((bw (maS rfl (maS ((bw (maS (add_n rfl rfl) (ma1 rfl))).trans (MT b (by omega) O)) (ma1 rfl)))).trans Z))) (.trans (aR (jU rfl)) W))).trans Y,?_,((J.b B).trans (Nm (T.lo.2 _ h1))).trans Q⟩
  have:(λn=>up X r.1 (X r.1++[ent r.2]) n++ofN R n)=λn=>X n++ofN (r::R) n:=by
   funext n
   unfold ofN
   by_cases e:n=r.1
   ·rw[e,cu,List.filter_cons,if_pos (zv rfl),zB];rfl
   ·rw[cg e,List.filter_cons,if_neg (by simpa using λz=>e z.symm)]
  rw[this] at L;exact L
def Nt  (hN:Nms N)(b:Bool)  (E:∀r∈R,vM N r)(X:R.length<=80000)(O:au):∃t d f,qU [dNm N,.lst (cR b N 0 R),.bl b] O=.ok (.ob d) t/\Tab N t d f (ofN R) O.length/\Kp O t:=by
 have W:=hN.l4;obtain⟨L,f,u,T,C,G⟩:=Nq N [] (O++[Ob.dk []]) (λ_=>0) _ ⟨fO,λn m=>(nomatch m),λn m=>(nomatch m),zc _,λn m=>nomatch m⟩ (by rw[ze];omega) hN.nd (by show 0+_<=_;omega)
 obtain⟨J,U,Q,P,F,I,y⟩:=Nr hN b _ R 0 L _ u _ _ _ T E (by omega) λn=>by show 0+_<=_;omega
 refine⟨J,O.length,f,cO ?_,I,λj x h=>((il.b _).trans C).trans y j x (dH h) h⟩;exact .trans (aR (bh ((bw (ma1 rfl)).trans (QvO hN O)))) (.trans (aR (iQ rfl)) (.trans (aR (fQ (dj rfl) G)) (.trans (aR (fQ rfl F)) rfl)))
theorem Nu{Z:Nat->Prop}{M:Int}:∀(f:List It3) (s:Sta),(∀x∈f,x.2.1=bu->Z (x.2.2.headD 0))->(∀y∈s.row,Z y.1)->(∀x∈(rn M s f).2,∀y∈x.1,Z y.1)/\∀y∈(rn M s f).1.row,Z y.1
 | [],s,_,h=>⟨λx hx=>(nomatch hx),h⟩
 |t::f,s,hi,h=>by
  have j:∀y∈bare s,Z _:=λy d=>by
   unfold bare at d;split at d
   ·cases d
   ·exact h y d
  have h1:∀y∈(stp M s t.1 _ _).row,Z _:=λy d=>by
   unfold stp stS at d;split at d
   ·exact h y d
   ·split at d
    ·cases d
    ·split at d
     ·rename_i e
      have:=hi t zd e
      split at d
      ·rw[zh.mp d];exact this
      ·rcases zx.mp d with d | d
       ·exact j y d
       ·rw[zh.mp d];exact this
     ·split at d
      ·exact j y d
      ·split at d
       ·exact j y d
       ·exact j y d
  obtain⟨u,m⟩:=Nu _ _ (λx hx=>hi x (zm _ hx)) h1;refine⟨λx hx y d=>?_,m⟩
  rcases zx.mp ((hx)) with hx | hx
  ·unfold due jW at hx;split at hx
   ·rw[zh.mp hx] at d;exact h y d
   ·split at hx
    ·split at hx
     ·rw[zh.mp hx] at d;exact j y d
     ·cases hx
    ·cases hx
  ·exact u x hx y d
def pF(Z:Nat->Prop)(t:List Nat):Prop:=∀(k:Int),∀d∈sgD (items k t),∃c,Z c/\d=.str [c]
theorem Nv{Z:Nat->Prop}:∀(f:List It3),(∀x∈f,Itm x.2.1 x.2.2)->(∀d∈sgD (f.map itD),∃c,Z c/\d=.str [c])->∀x∈f,x.2.1=bu->Z (x.2.2.headD 0)
 | [],_,_,x,hx,_=>nomatch hx
 |t::f,hi,h,x,hx,e=>by
  rcases zk.mp hx with rfl | hx
  ·obtain⟨c,u,C⟩:=h _ (by rw[zg,show sgD (itD x::f.map _)=.str _::sgD _ from if_pos e];exact zd);rw[D.str.inj C];exact u
  ·refine Nv _ (λy m=>hi y (zm _ m)) (λd hd=>h d ?_) x hx e
   by_cases j:t.2.1=bu
   ·rw[zg,show sgD (itD t::f.map _)=.str _::sgD _ from if_pos j];exact zm _ hd
   ·rw[zg,show sgD (itD t::f.map _)=sgD _ from if_neg j];exact hd
def QAA  {M:Int}{t:List Nat}(f:Okt t)(hz:pF Z t):∀x∈vI M t,∀y∈x.1,Z y.1:=by
 have S:=si f;have q:=Nv _ S.i (by rw[<-S.a];exact hz 0)
 obtain⟨a,b⟩:=Nu _ s0 q λy d=>nomatch d
 intro x hx
 rcases zx.mp (hx) with hx | hx
 ·exact a x hx
 ·unfold lstP at hx;split at hx
  ·rw[zh.mp hx];exact b
  ·cases hx
inductive Tk (al:List Nat):List Nat->Prop
 | ink (c:Nat):col c=true->Tk al [91,c,93]
 | gr (c:Nat):col c=true->Tk al [91,47,c,93]
 | pl:Tk al [91,93]
 | end_:Tk al [10]
 | anew:Tk al [9]
 | br (c:Nat):col c=true->Tk al [91,47,c]
 | ls (l:List Nat):l≠[]->l.length<=4->(∀x∈l,x∈al)->Tk al l
def als:List (List Nat):=[[105,106,107,108,88,89,48],[109,110,111,112,81,82,49],[113,114,115,116,76,77,50],[117,118,119,120,84,85,51]]
def brk:List Nat:=[91,47,97,98,99,100,101,102,103,104,46]
def Ck:∀d∈als,∀x∈d,(32<=x/\x<=125)/\x≠91/\x≠93:=by decide
def Cm   (h:c≠10/\c≠9/\c≠91):one c r=(bu,[c],0):=by unfold one;rw[if_neg h.1,if_neg h.2.1,if_neg h.2.2]
abbrev Zs(al:List Nat):Nat->Prop:=λc=>c∈al++brk
def Cq    (h:one c r=(k,v,n))(f:k≠bu)(q:pF (Zs al) (r.drop n)):pF (Zs al) (c::r):=λi d hd=>by
 rw[jO,h,show sgD (item i k v::items _ _)=sgD _ from if_neg f] at hd;exact q _ d hd
def vN  (h:one c r=(bu,[d],0))(hd:Zs al d)(q:pF (Zs al) r):pF (Zs al) (c::r):=λi x hx=>by
 rw[jO,h] at hx
 rcases zk.mp hx with rfl | hx
 ·exact⟨d,hd,rfl⟩
 ·exact q _ x hx
def Tk.hd(d:al∈als)  (h:Tk al p):∃c s,p=c::s/\c≠93:=by
 cases h with
 |ls _ h1 h2 h3 =>
  cases p with
  |nil=>exact absurd rfl h1
  |cons c s=>exact⟨c,s,rfl,(Ck al d c (h3 c zd)).2.2⟩
 | _=>exact⟨_,_,rfl,by decide⟩
theorem QAj(f:al∈als):∀{ps:List (List Nat)},(∀p∈ps,Tk al p)->ps.flatten=[]\/∃c s,ps.flatten=c::s/\c≠93
 | [],_=>.inl rfl
 |p::ps,h=>by
  obtain⟨c,s,rfl,d⟩:=(h p zd).hd f;exact .inr ⟨c,s++ps.flatten,rfl,d⟩
theorem Nx(t:al∈als):∀(ps:List (List Nat)),(∀p∈ps,Tk al p)->pF (Zs al) ps.flatten
 | [],_=>λk d hd=>by rw[List.flatten_nil,gD] at hd;cases hd
 |p::ps,h=>by
  have i:=Nx t ps λq m=>h q (zm _ m)
  have f:=QAj t λq m=>h q (zm _ m)
  have y:=h p zd;rw[List.flatten_cons]
  generalize ps.flatten=r at i f
  cases y with
  |ink c j=>exact Cq (Mw j) (by decide) i
  |gr c j=>exact Cq (Mx j) (by decide) i
  | pl
  | end_
  |anew=>exact Cq rfl (by decide) i
  |br c j =>
   have q:=oK j
   have C :=by
    have:∀x∈[97,98,99,100,101,102,103,104,46],x∈brk:=by decide
    exact this c (zP j)
   have u :=by
    have:∀x∈[97,98,99,100,101,102,103,104,46],x≠10/\x≠9:=by decide
    exact this c (zP j)
   refine vN (d:=91) ?_ (zH _ (by decide)) (vN (Cm (by decide)) (zH _ (by decide)) (vN (Cm ⟨u.1,u.2,q.1⟩) (zH _ C) i));show(if col c=true then iI c r else _)=_;rw[if_pos j]
   rcases f with rfl | ⟨x,s,rfl,hx⟩
   ·rfl
   ·exact if_neg hx
  |ls _ h1 h2 h3 =>
   clear h h1 h2
   induction p with
   |nil=>exact i
   |cons c l ih =>
    have:=Ck al t c (h3 c zd)
    exact vN (Cm ⟨by omega,by omega⟩) (zZ _ (h3 c zd)) (ih λx hx=>h3 x (zm _ hx))
def Tk.okt(f:al∈als)  (h:Tk al p):p.length<=4/\∀c∈p,(32<=c/\c<=125)\/c=10\/c=9:=by
 have cc:∀{c},col c=true->32<=c/\c<=125:=λh=>by
  have z:∀c∈[97,98,99,100,101,102,103,104,46],32<=c/\c<=125:=by decide
  exact z _ (zP h)
 cases h with
 |ls _ h1 h2 h3=>exact⟨h2,λc d=>.inl (Ck al f c (h3 c d)).1⟩
 | ink c d
 | gr c d
 |br c d=>have:=cc d;exact⟨by simp,by intro x hx;simp at hx;omega⟩
 | _=>exact⟨by decide,by decide⟩
def QCK   {ρc:aK}   {n:Nat}(m:n<=100)(d:u ρ O=.ok (.int (n:Int)) O)(j:dM 1 cap ρ=none::ρc)(f:∀k:Nat,k<n->e (some (.int (0+(k:Int)))::ρc) O=.ok (.str [g k]) O):jC (bO (eE (aj u ao)) 1 cap (mgN 0) bV e) ρ O=.ok (.str ((List.range n).map g)) O:=by
 have z:=iH (g:=mgN 0) (t:=bV) (λρ=>∃a,ρ=a::ρc) _ _ _ _ O [] ⟨none,rfl⟩ (by
  rintro k hk ρ ⟨a,rfl⟩
  exact⟨_,rfl,⟨_,rfl⟩,rfl,f k (List.mem_range.mp hk)⟩)
 rw[zU] at z;rw[Ia,oG,Am d (by omega),aL,if_pos (by simp[fY];omega),j];show((b7 _ _ _ ((List.range n).map _) _ O []).bind _).bind _=_;rw[z,aL,aL,fH,H9,uy,HY,BW,if_pos (by simp;omega),BV]
def Qvd(n:Int){f:Nat}  (L:als[f]?=some j)(O:au):∃p,Tk j p/\Ak [.int n,.int (f:Int)] O=.ok (.str p) O:=by
 obtain⟨c,u,U⟩:=ixS (l:=pC) (v:=mix n 1) (n:=9) (by decide) rfl (by decide);have u:col c=true:=zv u;have E:∀{k:Int}{ρ:aK},0<=k->k<=1000000->aC cT (aj (aa 0) (aj (mC (.int k)) ao)) (some (.int n)::ρ) O=.ok (.int (mix n k)) O:=gf rfl rfl
 suffices h:∃p,Tk j p/\Aj _ O=.rt (.str p) O from let ⟨p,k,e⟩:=h;⟨p,k,cO e⟩
 have J:=zJ L;unfold Aj
 have C:=λ(r:MS)=>aR (b:=r) (bh (i:=2) (aP (a:=mC (.str pC)) (ρ:=[some (.int n),some (.int (f:Int)),none,none,none]) rfl (dU (E (k:=1) (by decide) (by decide)) (b:=kI 9) rfl (by decide)) U))
 have t:=λ(r:MS)=>aR (b:=r) (bh (i:=3) (ρ:=[some (.int n),some (.int (f:Int)),some (.str [c]),none,none]) (dU (E (k:=0) (by decide) (by decide)) (b:=kI 10) rfl (by decide)))
 have P:=js (mix n 0) (show(10:Int)≠0 by decide)
 generalize mix n 0 % 10=w at t P
 by_cases h1:w<2
 ·obtain⟨d,e,hd⟩:∃d,gIx (.lst [.str [91,c,93],.str [91,47,c,93]]) (.int w)=some (.str d)/\Tk j d:=by
   rcases(by omega:w=0\/w=1) with rfl | rfl
   ·exact⟨_,rfl,.ink c u⟩
   ·exact⟨_,rfl,.gr c u⟩
  exact⟨d,hd,(C _).trans ((t _).trans (uC (BR (QC0 rfl rfl h1) (aP rfl rfl e))))⟩
 have t1:=λ(x r:MS)=>aR (b:=r) (vH (x:=x) (QBS (m:=aa 3) (q:=kI 2) (ρ:=[some (.int n),some (.int (f:Int)),some (.str [c]),some (.int w),none]) (O:=O) rfl rfl h1))
 by_cases h2:w=2
 ·obtain⟨d,hd,T⟩:=ixL (l:=[.str [91,93],.str [10],.str [9],.str [91,47,c]]) (v:=mix n 3) (n:=4) rfl (by decide)
  obtain⟨p,rfl,R⟩:∃p,d=.str p/\Tk j p:=by
   simp only[zk,List.not_mem_nil,or_false] at hd
   rcases hd with rfl | rfl | rfl | rfl
   ·exact⟨_,rfl,.pl⟩
   ·exact⟨_,rfl,.end_⟩
   ·exact⟨_,rfl,.anew⟩
   ·exact⟨_,rfl,.br c u⟩
  exact⟨p,R,(C _).trans ((t _).trans ((t1 _ _).trans (uC (BR (Mm rfl rfl h2) (aP rfl (dU (E (by decide) (by decide)) rfl (by decide)) T)))))⟩
 have t2:=λ(x r:MS)=>aR (b:=r) (vH (x:=x) (eq_n (m:=aa 3) (q:=kI 2) (ρ:=[some (.int n),some (.int (f:Int)),some (.str [c]),some (.int w),none]) (O:=O) rfl rfl h2))
 by_cases h3:w=3
 ·exact⟨_,.end_,(C _).trans ((t _).trans ((t1 _ _).trans ((t2 _ _).trans (uC (BR (Mm rfl rfl h3) rfl)))))⟩
 have Q:=λ(x r:MS)=>aR (b:=r) (vH (x:=x) (eq_n (m:=aa 3) (q:=kI 3) (ρ:=[some (.int n),some (.int (f:Int)),some (.str [c]),some (.int w),none]) (O:=O) rfl rfl h3))
 obtain⟨m,G,W⟩:=pB (mix n 12) (n:=4) (by decide)
 have I:∀j∈als,j.length=7:=by decide
 have F:∀k:Nat,∃x,x∈j/\gIx (.str j) (.int (mix n (4+(0+(k:Int))) % 7))=some (.str [x]):=λk=>ixS (by rw[I j J];decide) (by rw[I j J];rfl) (by decide)
 refine⟨(List.range (1+m)).map λk=>(F k).choose,.ls _ (by simp) (by simp;omega) (λx hx=>?_),(C _).trans ((t _).trans ((t1 _ _).trans ((t2 _ _).trans ((Q _ _).trans (.trans (aR (bh (d:=.str j) (aP (x:=.lst (als.map D.str)) (y:=.int (f:Int)) rfl rfl ?_))) (fj (QCK (by omega) (add_n (a:=1) (b:=m) rfl ((dU (E (by decide) (by decide)) rfl (by decide)).trans (congrArg (λx=>Res.ok (D.int x) O) G))) rfl λk X=>aP rfl (dU (gf rfl (mV rfl rfl) (by omega) (by omega)) rfl (by decide)) (F k).choose_spec.2)))))))⟩
 ·obtain⟨k,_,rfl⟩:=zz.mp hx;exact(F k).choose_spec.1
 ·rw[fH,jG,lu,gR,zC,L];rfl
def Ny   :up f a (f a)=f:=by
 unfold up
 grind
def Nz{M:Int}(f:1<=M/\M<=200)   (hs:OkS M s)(d:∀x∈j,Itm x.2.1 x.2.2):∀x∈(rn M s j).2,iT x/\x.1.length<=200:=λx hx=>⟨M9 f.1 _ s hs d x hx,by have:=vC f.1 _ s hs d x hx;omega⟩
def fed{M:Int}(f:1<=M/\M<=200)(u:Okt t)(d:Okt (t++p)):(∀x∈(rn M (rn M s0 (sI t)).1 (jI t p)).2,(iT x/\x.1.length<=200)/\x∈vI M (t++p))/\(rn M (rn M s0 (sI t)).1 (jI t p)).2.length<=t.length+p.length:=by
 have j:=(Bx d).1;have S:=si d
 have m :=λx hx=>S.i x (zZ _ (by rw[j];exact zH _ hx))
 have y:=(iR f.1 _ _ (ig f.1 u) m).2;have l:=S.l;rw[ze,j,ze,ze] at l;refine⟨λx hx=>⟨Nz f (ig f.1 u) m x hx,zZ _ ?_⟩,by omega⟩;rw[pA,j,pA];exact zZ _ (zH _ hx)
def QCB{M:Int}(d:1<=M/\M<=200)(f:Okt t):(∀x∈(rn M (rn M s0 (sI t)).1 (hI t)).2++lstP M t,(iT x/\x.1.length<=200)/\x∈vI M t)/\((rn M (rn M s0 (sI t)).1 (hI t)).2++lstP M t).length<=t.length+1:=by
 have S:=si f
 have j :=λx hx=>S.i x (zH _ hx)
 have m:=(iR d.1 _ _ (ig d.1 f) j).2;have l:=S.l;have ll:=Nb (M:=M) (t:=t);rw[ze] at l;refine⟨λx hx=>?_,by rw[ze];omega⟩
 rcases zx.mp hx with hx | hx
 ·exact⟨Nz d (ig d.1 f) j x hx,zZ _ (by rw[pA];exact zH _ hx)⟩
 ·have o:=(iR d.1 _ s0 (vB d.1) S.i).1;refine⟨?_,zH _ hx⟩;unfold lstP at hx;split at hx
  ·rw[zh.mp hx]
   have:=o.len
   exact⟨⟨o.ok,.inl rfl⟩,by show(rn M s0 _).1.row.length<=200;omega⟩
  ·cases hx
theorem Cr  :∀{k j:Nat}{d:List Du},gJ false N a k d=cR false N j (d.map λx=>(a,x))
 | _,_,[]=>rfl
 |k,j,x::d=>by
  show D.str _::gJ _ N a _ d=D.str _::cR _ N _ _;rw[Cr];rfl
theorem Cu   :∀{k:Nat}{l:List (List Nat×Du)},cR b N k (l++m)=cR b N k l++cR b N (k+l.length) m
 | _,[]=>rfl
 |k,x::l=>by
  show D.str _::cR b N _ (l++m)=D.str _::(cR b N _ l++_);rw[Cu,zw,show k+1+l.length=k+(l.length+1) by omega]
def alN(N:List (List Nat))(n:List Nat):List Nat:=als.getD (N.idxOf n) []
def Rz(N:List (List Nat))(r:List Nat×Du):Prop:=vM N r/\∀y∈r.2.1,y.1∈alN N r.1++brk
structure W7(O:au)(M:Int)(N:List (List Nat))(ro rl hs:Nat)(q:List Nat->Ix)(ts:List Nat->List (List Nat))(cl:List Nat->Bool)(L:List (List Nat×Du))(B J:Nat):Prop where
 w:RW O M N N ro rl hs q (λn=>(ts n).flatten) cl false (cR false N 0 L)
 tk:∀n∈N,∀p∈ts n,Tk (alN N n) p
 len:∀n∈N,(ts n).flatten.length<=B
 rz:∀r∈L,Rz N r
 ll:L.length<=J
def m6(h4:N.length<=4)(d:a∈N):als[N.idxOf a]?=some (alN N a)/\alN N a∈als:=by
 have f:=List.idxOf_lt_length_of_mem d
 have:N.idxOf a<als.length:=by show _<4;omega
 have e:als[N.idxOf a]?=some (alN N a):=by unfold alN;rw[jf,zt this];rfl
 exact⟨e,zJ e⟩
def Cv  (m:al∈als){ps:List (List Nat)}(h:∀p∈ps,Tk al p)(j:ps.flatten.length<=5000):Okt ps.flatten:=⟨j,λc d=>by
 obtain⟨p,f,d⟩:=List.mem_flatten.mp d
 exact((h p f).okt m).2 c d⟩
def W7.okt{M:Int}{hs:Nat}(w:W7 O M N ro j hs q ts cl L B J)(h4:N.length<=4)(f:B<=1000)(d:a∈N):Okt (ts a).flatten:=Cv (m6 h4 d).2 (w.tk a d) (by have:=w.len a d;omega)
def NB{M:Int}(h4:N.length<=4)(d:a∈N){ps:List (List Nat)}(f:∀p∈ps,Tk (alN N a) p)(j:ps.flatten.length<=5000){x:Du}(h1:iT x/\x.1.length<=200)(h2:x∈vI M ps.flatten):Rz N (a,x):=⟨⟨d,h1⟩,QAA (Cv (m6 h4 d).2 f j) (Nx (m6 h4 d).2 ps f) x h2⟩
def W7.feed{M:Int}{hs:Nat}(w:W7 O M N ro rl hs q ts cl L B J)(G:1<=M/\M<=200)(hN:Nms N)(h4:N.length<=4)(d:a∈N)(F:cl a=false)  (E:Tk (alN N a) p)(hB:B+4<=900)(hJ:J<=80000):
  ∃P Q W A,uW [.ob ro,.str a,.str p] O=.ok (.lst A) P/\W7 P M N ro rl hs Q (up ts a (ts a++[p])) cl W (B+4) (J+904):=by
 have C:=w.okt h4 (by omega) d;have Z:=w.len a d;have R:=E.okt (m6 h4 d).2;have u:Okt p:=⟨by omega,R.2⟩
 have f:(ts a++[p]).flatten=(ts a).flatten++p:=by simp
 have tk' :=λx hx=>(zx.mp hx).elim (w.tk a d x) λz=>by rw[zh.mp z];exact E
 have m:Okt ((ts a).flatten++p):=by rw[<-f];exact Cv (m6 h4 d).2 tk' (by rw[f,ze];omega)
 obtain⟨I⟩:=fed G C m;have Y:=w.ll;obtain⟨U,X,T,y,_⟩:=w.w.feed G hN d d F C u m (by rw[m5];omega)
 rw[Cr,<-Cu,show up cl a _=cl from by rw[<-F];exact Ny,show up _ a _=λn=>(up ts a _ n).flatten from by
  funext n
  by_cases e:n=a
  ·rw[e,cu,cu,f]
  ·rw[cg e,cg e]] at y
 refine⟨U,_,_,_,T,y,λn t=>?_,λn t=>?_,λr j=>?_,?_⟩
 ·by_cases e:n=a
  ·rw[e,cu];exact tk'
  ·rw[cg e];exact w.tk n t
 ·have:=w.len n t
  by_cases e:n=a
  ·rw[e,cu,f,ze];omega
  ·rw[cg e];omega
 ·rcases zx.mp j with j | j
  ·exact w.rz r j
  ·obtain⟨x,hx,rfl⟩:=zz.mp j;exact NB h4 d tk' (by rw[f,ze];omega) (I x hx).1 (by rw[f];exact(I x hx).2)
 ·rw[ze,zf];omega
def W7.close{M:Int}{hs:Nat}(w:W7 O M N ro W hs q ts cl L B J)(t:1<=M/\M<=200)(hN:Nms N)(h4:N.length<=4)(d:a∈N)(E:cl a=false)(U:B<=900)(T:J<=80000):
  ∃y C I A,uX [.ob ro,.str a] O=.ok (.lst A) y/\W7 y M N ro W hs C ts (up cl a true) I B (J+904):=by
 have m:=w.okt h4 (by omega) d;have R:=w.len a d;obtain⟨u⟩:=QCB t m;have Q:=w.ll;obtain⟨G,P,F,j,_⟩:=w.w.close t hN d d E m (by rw[m5];omega);rw[Cr,<-Cu,Ny] at j;refine⟨G,_,_,_,F,j,w.tk,w.len,λr f=>?_,?_⟩
 ·rcases zx.mp f with f | f
  ·exact w.rz r f
  ·obtain⟨x,hx,rfl⟩:=zz.mp f;exact NB h4 d (w.tk a d) (by omega) (u x hx).1 (u x hx).2
 ·rw[ze,zf];omega
theorem NP{c0:Option D}{M:Int}{N:List (List Nat)}{ro y hs:Nat}{tl:aK}(E:1<=M/\M<=200)(hN:Nms N)(h4:N.length<=4):∀(d:List Int) (O:au) (q:List Nat->Ix) (ts:List Nat->List (List Nat)) (L:List (List Nat×Du)) (B J:Nat) (x4 x5:Option D),B+4 * d.length<=900->J+904 * d.length<=80000->W7 O M N ro y hs q ts (λ_=>false) L B J ->
  ∃j u f x t m,bj (mgN 4) bFd (d.map D.int) (some X::c0::some (dNm N)::some (.ob ro)::x4::x5::tl) O=.nx (some X::c0::some (dNm N)::some (.ob ro)::t::m::tl) j/\W7 j M N ro y hs u f (λ_=>false) x (B+4 * d.length) (J+904 * d.length)
 | [],O,q,ts,L,B,J,x4,x5,_,_,w=>⟨O,q,ts,L,x4,x5,rfl,w⟩
 |i::d,O,q,ts,L,B,J,x4,x5,hB,hJ,w=>by
  rw[zw] at hB hJ;have R :=List.length_pos_iff.mpr hN.ne;obtain⟨k,W,T⟩:=pB _ R;have C :=ja T;have U :=List.Nodup.idxOf_getElem hN.nd k;obtain⟨p,P,F⟩:=Qvd i (m6 h4 C).1 O;rw[U] at F;obtain⟨O1,Q,L1,A,Z,I⟩:=w.feed E hN h4 C rfl P (by omega) (by omega);obtain⟨j,u,f,x,t,m,Y,G⟩:=NP E hN h4 d O1 Q _ L1 _ _ _ _ (by omega) (by omega) I;refine⟨j,u,f,x,t,m,(fc rfl ?_).trans Y,by rw[zw,show B+4 * (d.length+1)=B+4+4 * d.length by omega,show J+904 * (d.length+1)=J+904+904 * d.length by omega];exact G⟩;refine .trans (aR (bh ((dU (gf rfl rfl (by decide) (by decide)) (lD rfl) (by rw[zf];omega)).trans (by rw[zf,W])))) (rH ((dI rfl w.w.r rfl (maS (aP rfl rfl ?_) (ma1 ((bw (maS rfl (ma1 rfl))).trans F)))).trans Z))
  show gIx (.lst _) (.int _)=_;rw[lu,gR,zC,zt];rfl
theorem NQ{c0:Option D}{M:Int}{N:List (List Nat)}{ro x hs:Nat}{tl:aK}(y:1<=M/\M<=200)(hN:Nms N)(h4:N.length<=4){B:Nat}(C:B<=900){ts:List Nat->List (List Nat)}{x4 x5:Option D}:∀(R:List (List Nat)) (O:au) (q:List Nat->Ix) (cl:List Nat->Bool) (L:List (List Nat×Du)) (J:Nat) (x6:Option D),(∀n∈R,n∈N/\cl n=false)->R.Nodup->J+904 * R.length<=80000->W7 O M N ro x hs q ts cl L B J ->
  ∃f m d u j,bj (mgN 6) bCl (R.map D.str) (some X::c0::some (dNm N)::some (.ob ro)::x4::x5::x6::tl) O=.nx (some X::c0::some (dNm N)::some (.ob ro)::x4::x5::j::tl) f/\W7 f M N ro x hs m ts d u B (J+904 * R.length)
 | [],O,q,cl,L,J,x6,_,_,_,w=>⟨O,q,cl,L,x6,rfl,w⟩
 |a::R,O,q,cl,L,J,x6,hR,nd,hJ,w=>by
  rw[zw] at hJ;obtain⟨Q,P⟩:=hR a zd;obtain⟨na,I⟩:=List.nodup_cons.mp nd;obtain⟨W,G,Y,A,U,F⟩:=w.close y hN h4 Q P C (by omega);obtain⟨f,m,d,u,j,T,E⟩:=NQ y hN h4 C R W G _ Y _ _ (λn t=>⟨(hR n (zm _ t)).1,by rw[cg λz=>na (by rw[<-z];exact t)];exact(hR n (zm _ t)).2⟩) I (by omega) F;exact⟨f,m,d,u,j,(fc rfl (rH ((dI rfl w.w.r rfl (ma1 rfl)).trans U))).trans T,by rw[zw,show J+904 * (R.length+1)=J+904+904 * R.length by omega];exact E⟩
def Cw{r:List LT}(j:∀x∈r,OkL x):∀d∈(r.map l3).map dK,gk d=true/\(toP d).canLay0=true/\(toP d).depth<=5:=λd hd=>by
 obtain⟨y,f,rfl⟩:=zz.mp hd;obtain⟨x,hx,rfl⟩:=zz.mp f;obtain⟨h1,h2,h3⟩:=j x hx;have h2:=Mu h2;have h3:=Mu h3
 have q:∀c ,c<1114112->(PyData.str _).canLay0=true:=λc m=>Ie λx hx=>by rw[zh.mp hx];exact m
 refine⟨rfl,?_,Nat.le_of_ble_eq_true rfl⟩;show((PyData.str (S [x.1])).canLay0&&((PyData.str (S [if x.1=32 then 46 else x.2.1])).canLay0&&((PyData.str (S [x.2.2.1])).canLay0&&true)))=true;rw[q _ (by omega),q _ (by split<;>omega),q _ (by omega)];rfl
def QyT{x:Du}(h:iT x):gk (ent x)=true/\(toP (ent x)).canLay0=true/\(toP (ent x)).depth<=10:=by
 have m:∀c∈x.2,c<1114112:=by
  rcases h.2 with e | e<;>rw[e]<;>decide
 have lk:=Cw h.1
 have lay:∀d∈((x.1.map l3).map dK).map toP,d.canLay0=true/\d.depth<=5:=λd hd=>by
  obtain⟨j,f,rfl⟩:=zz.mp hd;exact(lk j f).2
 refine⟨?_,?_,?_⟩
 ·refine uz λd hd=>?_
  rcases zk.mp hd with rfl | hd
  ·exact uz λd hd=>(lk d hd).1
  ·rw[zh.mp hd];rfl
 ·show PyData.canLayAll0 _=true;rw[oH]
  refine sO λd hd=>?_
  obtain⟨j,f,rfl⟩:=zz.mp hd
  rcases zk.mp f with rfl | f
  ·show PyData.canLayAll0 _=true;rw[oH]
   exact sO λd hd=>(lay d hd).1
  ·rw[zh.mp f];exact Ie m
 ·show PyData.depthAll _+1<=10;rw[oH]
  have:=sS (ds:=[D.lst ((x.1.map l3).map dK),.str x.2].map toP) λd hd=>by
   obtain⟨j,f,rfl⟩:=zz.mp hd
   rcases zk.mp f with rfl | f
   ·show PyData.depthAll _+1<=8;rw[oH]
    have:=sS λd hd=>(lay d hd).2
    omega
   ·rw[zh.mp f];show PyData.depth (.str _)<=8;simp[PyData.depth]
  omega
def QvH   (h:∀r∈R,vM N r)(n:List Nat):okE (.lst (ofN R n))=true:=Ib (n:=10) (by decide) λd hd=>by
 obtain⟨r,f,rfl⟩:=zz.mp hd;exact QyT (h r (List.mem_filter.mp f).1).2.1
def QB5  (h:okE (.lst l)=true):gNe (.lst l) (.lst [])=some (.bl (!l.isEmpty)):=by
 rw[HH,h]
 cases l<;>rfl
theorem NT :∀{N:List (List Nat)},N.Nodup->a∈N->N.filter (λn=>decide (n=a))=[a]
 |n::N,nd,h=>by
  obtain⟨f,d⟩:=List.nodup_cons.mp nd;rw[List.filter_cons]
  by_cases e:n=a
  ·rw[if_pos (zv e),e,List.filter_eq_nil_iff.mpr λm j z=>f (by rw[e,<-zP z];exact j)]
  ·rw[if_neg (by simpa )];exact NT d ((zk.mp h).resolve_left λz=>e z.symm)
theorem NZ :∀{L:List (List Nat×Du)}{j k:Nat}{r:List Nat×Du},L[j]?=some r->(cR false N k L)[j]?=some (.str (hdT N r.1 r.2.2++shT r.2.1))
 |r::L,0,k,_,h=>by cases h;rfl
 |x::L,j+1,k,r,h=>NZ (L:=L) h
def cN(L:List (List Nat×Du))(k:Nat)(n:List Nat):Nat:=((L.take k).filter λr=>decide (r.1=n)).length
def QA4    (h:L[k]?=some r):(ofN L r.1)[cN L k r.1]?=some (ent r.2):=by
 obtain⟨d,e⟩:=zu.mp h
 have:L=L.take k++r::L.drop (k+1):=by rw[<-e,<-List.drop_eq_getElem_cons,List.take_append_drop]
 have f:(L.filter λx=>decide (x.1=r.1))=((L.take k).filter λx=>decide (x.1=r.1))++(r::L.drop (k+1)).filter λx=>decide (x.1=r.1):=by rw[<-List.filter_append,<-this]
 unfold ofN cN;rw[zC,f,zL (zc _),Nat.sub_self,List.filter_cons,if_pos (zv rfl)];rfl
def QCM    (h:L[k]?=some r):cN L (k+1)=up (cN L k) r.1 (cN L k r.1+1):=by
 funext n
 unfold cN;rw[List.take_add_one,h];show((L.take k++[r]).filter _).length=_;rw[List.filter_append,ze]
 by_cases e:n=r.1
 ·rw[e,cu,List.filter_cons,if_pos (zv rfl)];rfl
 ·rw[cg e,List.filter_cons,if_neg (by simpa using λz=>e z.symm)];rfl
def Qxw   {v:Nat}:∀{N:List (List Nat)},a∈N->cX (N.map λn=>(kyN n,D.int (g n:Int))) (kyN a) (.int (v:Int))=N.map λn=>(kyN n,D.int ((up g a v n:Nat):Int)):=by
 intro N d;unfold cX;have any:((N.map λn=>(kyN n,D.int (g n))).any λp=>decide (p.1=kyN a))=true:=List.any_eq_true.mpr ⟨_,zz.mpr ⟨a,d,rfl⟩,zv rfl⟩;rw[if_pos any,zO]
 refine zY λn _=>?_
 show(if kyN n=kyN a then(kyN n,D.int _) else(kyN n,D.int _))=_
 by_cases e:n=a
 ·rw[e,if_pos rfl,cu]
 ·rw[if_neg λz=>e (mZ z),cg e]
theorem Cy{g:List Nat->Nat} :∀{N:List (List Nat)},n∈N->cH (N.map λn=>(kyN n,D.int (g n:Int))) (kyN n)=some (.int (g n:Int))
 |m::N,h=>by
  rw[zg,lH]
  by_cases e:m=n
  ·rw[if_pos (by rw[e]),e]
  ·rw[if_neg λz=>e (mZ z)];exact Cy ((zk.mp h).resolve_left λz=>e z.symm)
theorem sum_c:∀{N:List (List Nat)},N.Nodup->∀(L:List (List Nat×Du)),(∀r∈L,r.1∈N)->(N.map λn=>(L.filter λr=>decide (r.1=n)).length).sum=L.length
 |N,nd,[],_=>by induction N with
  |nil=>rfl
  |cons n N f=>rw[zg,List.sum_cons,f (List.nodup_cons.mp nd).2 λr d=>nomatch d];rfl
 |N,nd,r::L,h=>by
  have i:=sum_c nd L λx hx=>h x (zm _ hx)
  have d:=h r zd
  have key:∀(g ) {P:List _},P.Nodup->r.1∈P->(P.map λn=>g n+if r.1=n then 1 else 0).sum=(P.map g).sum+1:=λg {P} nd d=>by
   induction P with
   |nil=>cases d
   |cons n P f =>
    obtain⟨t,j⟩:=List.nodup_cons.mp nd;rw[zg,zg,List.sum_cons,List.sum_cons]
    by_cases e:r.1=n
    ·rw[if_pos e,show P.map _=P.map g from zY λm u=>by rw[if_neg λz=>t (by rw[<-e,z];exact u)];rfl];omega
    ·rw[if_neg e,f j ((zk.mp d).resolve_left e)];omega
  rw[zw,<-i,<-key _ nd d];congr 1
  refine zY λn _=>?_
  rw[List.filter_cons]
  by_cases e:r.1=n
  ·rw[if_pos (zv e),if_pos e];rfl
  ·rw[if_neg (by simpa ),if_neg e];rfl
def Cz      (h:m ρ O=.ok ds O):maD m d ρ O=.ok (ds++[d]) O:=by unfold maD;rw[h];rfl
def Qyw      (h1:mo ρ O=.ok (dNm N) O)(h2:m ρ O=.ok (.str a) O)(d:a∈N)(f:N.length<=4):uq mo m ρ O=.ok (.int (N.idxOf a:Int)) O:=by
 unfold uq;rw[h1,aL,h2]
 show(match fG _ with
  |some ls=>if a∈ls/\ls.length<=1000000 then Res.ok _ O else .no
  |none=>.no)=_
 rw[((uy N).trans (by rw[List.map_id']))];exact if_pos ⟨d,by omega⟩
def N5{w:Nat}  (d:h.length=w+1)(f:(h++T).length<=100000)(O:au):u0 [.str (h++T),.int (w:Int)] O=.ok (.str T) O :=
 cO (fj ((vG rfl (vD (add_n rfl rfl)) rfl (by omega)).trans (by rw[LC,<-d,List.drop_left])))
def Qz0  (m:r.length<=200)(hs:s.length<=200)(or:∀x∈r,OkL x)(os:∀x∈s,OkL x)(O:au):∃d,iM [.str (shT r++shT s)] O=.ok (.lst ((r.map l3).map dK++(s.map l3).map dK)) d/\Kp O d:=by
 have a:=mY m or;have b:=mY hs os;rw[<-zM];refine MF ⟨by rw[ze];have:=a.l;have:=b.l;omega,λc t=>.inl ((zx.mp t).elim (a.c c) (b.c c))⟩ (λO=>?_) O;refine a.q Ca (by decide) ?_
 have:=b.q (Ca (T:=shT r++shT s) (O:=O)) (acc:=[]++r.map l3) (by simp;omega) λk j f=>⟨j,f,by rw[gD];rfl⟩
 rwa [zG] at this
noncomputable def eC(X:D)(c0:Option D)(N:List (List Nat))(ro:Nat)(x4 x5 x6:Option D)(L:List (List Nat×Du))(x sp:Nat)(u t m j f d:Option D):aK:=[some X,c0,some (dNm N),some (.ob ro),x4,x5,x6,some (.lst (cR false N 0 L)),some (.ob x),some (.int (wd N:Int)),some (.ob sp),u,t,m,j,f,d]
def Qv7{sp:Nat}(hN:Nms N)(h4:N.length<=4)(hL:∀r∈L,Rz N r)(hl:L.length<=80000)  (hk:k<L.length)  (T:Tab N O dw fw (ofN L) B)(hs:O[sp]?=some (.dk (N.map λn=>(kyN n,D.int (cN L k n:Int)))))(hne:sp≠dw)(x12 Y U Q P:Option D):
  ∃O' y12 y13 y14 y15 y16,bCk (eC X c0 N ro x4 x5 x6 L dw sp (some (.int (0+(k:Int)))) x12 Y U Q P) O=.nx (eC X c0 N ro x4 x5 x6 L dw sp (some (.int (0+(k:Int)))) y12 y13 y14 y15 y16) O'/\Tab N O' dw fw (ofN L) B/\O'[sp]?=some (.dk (N.map λn=>(kyN n,D.int (cN L (k+1) n:Int)))):=by
 have w8:=wd8 hN;have hr:L[k]?=some L[k]:=zt hk;have hz:=hL _ (ja hk)
 generalize L[k]=r at hr hz
 obtain⟨⟨f,hd,h2⟩,hsg⟩:=hz;have row:∀{j:Nat}{s:List Nat×Du},L[j]?=some s->(cR false N 0 L)[j]?=some (.str (hdT N s.1 s.2.2++shT s.2.1)):=NZ
 have i1:∀(ρ:aK) (O:au),ρ[7]?=some (some (.lst (cR false N 0 L)))->ρ[11]?=some (some (.int (0+(k:Int))))->ak gIx (aa 7) (aa 11) ρ O=.ok (.str (hdT N r.1 r.2.2++shT r.2.1)) O:=λρ O a b=>aP (by rw[gb,a]) (by rw[gb,b]) (by rw[fH,jG,lu,Int.zero_add,gR];exact row hr)
 obtain⟨E,J,fa,e1,T1,k1⟩:=Nt hN false (R:=[r]) (λs hs=>by rw[zh.mp hs];exact⟨f,hd,h2⟩) (by show 1<=_;decide) O;have e1':qU [dNm N,.lst [.str (hdT N r.1 r.2.2++shT r.2.1)],.bl false] O=.ok (.ob J) E:=e1
 have oa:ofN [r] r.1=[ent r.2]:=by unfold ofN;rw[List.filter_cons,if_pos (zv rfl)];rfl
 have Z:∀n,okE (.lst (ofN [r] n))=true:=λn=>QvH (N:=N) (λs hs=>by rw[zh.mp hs];exact⟨f,hd,h2⟩) n
 have cm:bO (bz (aa 2)) 1 [12] (mgN 0) (az (ak gNe (gw (aa 1) (aa 0)) (bJ ao))) (aa 0) (eC X c0 N ro x4 x5 x6 L dw sp (some (.int (0+(k:Int)))) (some (.ob J)) Y U Q P) E=.ok (.lst [.str r.1]) E:=by
  have l6:=hN.l4
  refine(jT (dj (l:=N.map D.str) rfl) (by rw[zf];omega) rfl (vm (λρ=>∃z,ρ=[z,some (.ob J)]) (λn=>decide (n=r.1)) D.str N [none,some (.ob J)] E [] ⟨_,rfl⟩ (by
   rintro n I ρ ⟨z,rfl⟩;refine⟨_,rfl,⟨_,rfl⟩,bR (aP (T1.sub I rfl rfl) (y:=.lst []) rfl ?_),rfl⟩;rw[lF (T1.ml n I),fH,QB5 (Z n)]
   by_cases e:n=r.1
   ·rw[e,oa,zv rfl];rfl
   ·rw[zq e,show ofN [r] n=[] from by unfold ofN;rw[List.filter_cons,if_neg (by simpa using λz=>e z.symm)];rfl];rfl))).trans ?_
  rw[NT hN.nd f];rfl
 have m:=T.kp k1;have G:=k1 _ _ hs;have k3:=Qxw (g:=cN L k) (v:=cN L k r.1+1) f;rw[<-QCM hr] at k3;have T3:Tab N (E.set sp (.dk (N.map λn=>(kyN n,D.int (cN L (k+1) n:Int))))) dw fw (ofN L) B:=⟨by rw[zj hne];exact m.dk,λn I=>by rw[zj (gZ G (m.ml n I) (λz=>nomatch z))];exact m.ml n I,m.inj,m.lo⟩;have s3:=gs (y:=Ob.dk (N.map λn=>(kyN n,D.int (cN L (k+1) n:Int)))) G
 generalize hO3:E.set sp (.dk (N.map λn=>(kyN n,D.int (cN L (k+1) n:Int))))=u at T3 s3
 have sh:=mY h2 hd.1;have sl:=sh.l;have hh:=vL (N:=N) (W:=r.2.2) f
 obtain⟨j,s,hj,ej⟩:∃(j:Nat) (s:List Nat×Du),L[j]?=some s/\gIx (.lst (cR false N 0 L)) (.int (0+(k:Int) - 1))=some (.str (hdT N s.1 s.2.2++shT s.2.1)):=by
  cases k with
  |zero =>
   refine⟨L.length - 1,L[L.length - 1]'(by omega),zt _,?_⟩;rw[lu];unfold atI;rw[m5,show(0+((0:Nat):Int) - 1) = -1 from rfl,show ixN L.length (-1)=some (L.length - 1) from by unfold ixN;rw[if_neg (by decide),if_pos (by omega)];congr 1;omega];exact row (zt _)
  |succ k=>exact⟨k,L[k]'(by omega),zt _,by rw[lu,show(0+((k+1:Nat):Int) - 1)=(k:Int) by omega,gR];exact row (zt _)⟩
 obtain⟨⟨sa,sd,s2⟩,_⟩:=hL s (zJ hj);have sl2:=(mY s2 sd.1).l;have hh2:=vL (N:=N) (W:=s.2.2) sa;obtain⟨O4,u1,q1⟩:=Qz0 s2 h2 sd.1 hd.1 u;obtain⟨O5,u2,q2⟩:=Cj s2 sd.1 O4;obtain⟨O6,u3,q3⟩:=Cj h2 hd.1 O5
 have kk:Kp u O6:=λ_ _ z=>q3 _ _ (q2 _ _ (q1 _ _ z))
 have okl:okE (.lst ((s.2.1.map l3).map dK++(r.2.1.map l3).map dK))=true:=Ib (n:=5) (by decide) λd hdd=>(zx.mp hdd).elim (Cw sd.1 d) (Cw hd.1 d)
 have sn:uZ [.str (shT r.2.1)] u=.ok (.lst ((r.2.1.map l3).map λx=>st x.1)) u:=by
  rw[Qyv (sh.c.okt (by omega))]
  have:=sh.q (QBt (F:=(r.2.1.map l3).map λx=>st x.1)) (t:=[]) (acc:=[]) (by decide) (λi=>by rw[gD];show _++[]=_;rw[zG];rfl) 0
  rw[zG] at this;rw[<-this];rfl
 have C:∀(ρ:aK) (O:au),ρ[13]?=some (some (.lst [.str r.1]))->ak gIx (aa 13) (kI 0) ρ O=.ok (.str r.1) O:=λρ O a=>aP (x:=.lst [.str r.1]) (by rw[gb,a]) rfl rfl
 have al:=m6 h4 f;refine⟨O6,some (.ob J),some (.lst [.str r.1]),some (.str (alN N r.1++brk)),some (.str (shT r.2.1)),some (.str (shT s.2.1)),?_,T3.kp kk,kk _ _ s3⟩;unfold bCk;refine .trans (aR (iQ ((bw (Cz (maS (x:=dNm N) rfl (ma1 (Kc (ma1 (i1 _ _ rfl rfl)) (by show 1<=_;decide)))))).trans e1'))) (.trans (aR (bh cm)) (.trans (aR (jU (or_f (bR (aP (lD (l:=[.str r.1]) rfl) (y:=.int 1) rfl rfl)) (bR (aP (T1.sub f rfl (C _ _ rfl)) (y:=.lst [ent r.2]) (Kc (ma1 (aP (m.sub f rfl (C _ _ rfl)) (y:=.int (cN L k r.1:Int)) (vK rfl (C _ _ rfl) rfl G (Cy f)) ?a)) (by show 1<=_;decide)) ?b))))) (.trans (aR (Cg (y:=.str r.1) (k:=kyN r.1) (add_n (b:=1) (vK rfl (C _ _ rfl) rfl G (Cy f)) rfl) rfl (C _ _ rfl) rfl G (by rw[zf];omega))) ?c)))
 case a=>rw[lF (m.ml _ f),jG,lu,gR];exact QA4 hr
 case b=>rw[lF (T1.ml _ f),fH,oa];rw[<-oa];exact Mv (Z r.1)
 rw[k3,hO3]
 have hno:∀c,c<32->gIn false (.str [c]) (.str (shT r.2.1))=some (.bl false):=λc hc=>by rw[HJ,zq λz=>by have:=sh.c c z;omega];rfl
 refine .trans (aR (bh (gH (x:=alN N r.1) (y:=brk) (aP (x:=.lst (als.map D.str)) (y:=.int (N.idxOf r.1:Int)) rfl ?a1 ?b1) rfl ?c1))) (.trans (aR (bh ((bw (maS (i1 _ _ rfl rfl) (ma1 (x:=.int (wd N:Int)) rfl))).trans (N5 hh (by rw[ze];omega) u)))) (.trans (aR (jU (or_f (bR (aP (x:=.lst []) (y:=.lst []) ?d1 rfl rfl)) (or_f (bR (aP rfl rfl (hno 10 (by decide)))) (bR (aP rfl rfl (hno 9 (by decide)))))))) (.trans (aR (bh ((bw (maS (aP rfl (An rfl rfl) ej) (ma1 (x:=.int (wd N:Int)) rfl))).trans (N5 hh2 (by rw[ze];omega) u)))) (ifN (Qxx (qY ((bw (ma1 (gH (x:=shT s.2.1) (y:=shT r.2.1) rfl rfl (by omega)))).trans u1) (qY ((bw (ma1 (x:=.str (shT s.2.1)) rfl)).trans u2) ((bw (ma1 (x:=.str (shT r.2.1)) rfl)).trans u3) (z:=.lst ((s.2.1.map l3).map dK++(r.2.1.map l3).map dK)) ?e1) (Mv okl)))))))
 case a1=>exact Qyw rfl (C _ _ rfl) f h4
 case b1 =>
  rw[fH,jG,lu,gR,zC,al.1];rfl
 case c1 =>
  have l7:∀al∈als,al.length=7:=by decide
  rw[l7 _ al.2];decide
 case d1 =>
  refine jT (dj ((bw (ma1 (x:=.str (shT r.2.1)) rfl)).trans sn)) (by rw[zf,zf];omega) rfl ((vm (λρ=>∃z,ρ=[z,some (.str (alN N r.1++brk))]) (λ_=>false) (λx:L3=>st x.1) (r.2.1.map l3) [none,some (.str (alN N r.1++brk))] u [] ⟨_,rfl⟩ (by
   rintro x hx ρ ⟨z,rfl⟩;obtain⟨y,hy,rfl⟩:=zz.mp hx
   exact⟨_,rfl,⟨_,rfl⟩,bR (aP (x:=.str [y.1]) (y:=.str (alN N r.1++brk)) rfl rfl (by rw[mD,mD,HJ,zv (hsg y hy)];rfl)),rfl⟩)).trans ?_)
  rw[List.filter_eq_nil_iff.mpr λ_ _ z=>zA z];rfl
 case e1=>rw[fH,fH,QzP,if_pos (by rw[zf,zf,zf,zf];omega)]
theorem N6{c0 x4 x5 x6:Option D}{N:List (List Nat)}{ro P sp:Nat}{L:List (List Nat×Du)}{fw:List Nat->Nat}{B:Nat}(hN:Nms N)(h4:N.length<=4)(hL:∀r∈L,Rz N r)(hl:L.length<=80000)(J:sp≠P):∀(n j:Nat) (O:au) (y x u t f d:Option D),j+n=L.length->Tab N O P fw (ofN L) B->O[sp]?=some (.dk (N.map λm=>(kyN m,D.int (cN L j m:Int)))) ->
  ∃Q y11 I G F E C,bj (mgN 11) bCk ((List.range' j n).map λi:Nat=>D.int (0+(i:Int))) (eC X c0 N ro x4 x5 x6 L P sp y x u t f d) O=.nx (eC X c0 N ro x4 x5 x6 L P sp y11 I G F E C) Q/\Q[sp]?=some (.dk (N.map λm=>(kyN m,D.int (cN L (j+n) m:Int))))
 | 0,j,O,y,x,u,t,f,d,_,_,hs=>⟨O,y,x,u,t,f,d,rfl,hs⟩
 |n+1,j,O,y,x,u,t,f,d,hj,T,hs=>by
  obtain⟨O1,I,G,F,E,C,e1,T1,s1⟩:=Qv7 hN h4 hL hl (by omega) T hs J _ _ _ _ _;obtain⟨Q,z11,Z,Y,W,U,R,e2,s2⟩:=N6 hN h4 hL hl J n _ O1 _ _ _ _ _ _ (by omega) T1 s1;refine⟨Q,z11,Z,Y,W,U,R,?_,by rw[show j+(n+1)=j+1+n by omega];exact s2⟩;exact(fc rfl e1).trans e2
def QyQ(ns:List Int)(O:au):∃v,qW [.lst (ns.map D.int),.int 0] O=.ok (.int v) O:=by
 cases ns with
 |nil=>exact⟨0,by simp[qW,Ad]⟩
 |cons n ns =>
  have d:gIx (.lst (D.int n::ns.map D.int)) (.int 0)=some (.int n):=by
   have:=gR (xs:=D.int n::ns.map D.int) (j:=0)
   exact this
  simp[qW,Ad,d]
def Qt1{α:Type}(f:α->Int)(l:List α)(h:∀x∈l,0<=f x/\f x<=1000000)(d:l.length<=1000000):nQ [.lst (l.map λx=>.int (f x))]=some (.int (l.map f).sum):=by
 unfold nQ
 dsimp
 rw[BJ]
 grind
theorem N7:∀N:List (List Nat),mq (N.map λn=>.tup [.str n,.int 0])=some (N.map λn=>(kyN n,.int 0))
 | []=>rfl
 |n::N=>by
  have i:=N7 N;simp  [mq,i];rfl
theorem N8:∀(R P:List (List Nat)),(P++R).Nodup->(R.map λn=>(kyN n,D.int 0)).foldl (λacc p=>cX acc p.1 p.2) (P.map λn=>(kyN n,D.int 0))=(P++R).map λn=>(kyN n,D.int 0)
 | [],P,_=>by rw[zG];rfl
 |a::R,P,nd=>by
  have d :=λz=>(jg.mp nd).2.2 a z a zd rfl
  rw[zg,List.foldl_cons,show cX _ _ _=(P++[a]).map _ from ?_,N8 R _ (by rw[zB];exact nd),zB]
  ·rfl
  ·unfold cX;rw[if_neg,zM]
   ·rfl
   ·intro z;obtain⟨p,h1,h2⟩:=List.any_eq_true.mp z;obtain⟨m,f,rfl⟩:=zz.mp h1;exact d (mZ (zP h2) ▸ f)
def Qs6(ns:List Int)(hn:ns.length<=63):∃O',Ka [.lst (ns.map D.int)] []=.ok (.bl true) O':=by
 obtain⟨v,ev⟩:=QyQ ns [];obtain⟨m,hm,hm2⟩:=pB (mix v 33) (n:=3) (by decide);obtain⟨N,hN,eN⟩:=Qvy v (m:=2+m) (by omega) (by omega) [];have h4:=hN.l4
 have R:(1:Int)<=1+mix v 34 % 9/\1+mix v 34 % 9<=200:=by omega
 obtain⟨X,hX⟩:∃X,X=D.lst (ns.map D.int):=⟨_,rfl⟩
 have em:∀(ρ:aK) (O:au),ak aH (kI 1) (ak b8 (aC cT (aj (aa 1) (aj (kI 34) ao))) (kI 9)) (some X::some (.int v)::ρ) O=.ok (.int (1+mix v 34 % 9)) O:=λρ O=>mV rfl (dU (gf (c:=v) rfl rfl (by decide) (by decide)) rfl (by decide))
 generalize 1+mix v 34 % 9=M at R em
 obtain⟨O1,rl,hs,q,e4,w1⟩:=Qx0 R hN (O:=[]) (bn:=false) (ma:=maD (aj (aa 2) _) (.bl false)) (ρ:=[some X,some (.int v),some (dNm N),none,none,none,none,none,none,none,none,none,none,none,none,none,none]) (Cz (maS (x:=dNm N) rfl (ma1 (em _ _))));obtain⟨O2,q2,ts,L,J,I,e5,w2⟩:=NP (X:=X) (c0:=some (.int v)) (tl:=[none,none,none,none,none,none,none,none,none,none,none]) R hN h4 ((ns.drop 1).take 50) O1 q (λ_=>[]) [] 0 0 none none (by rw[List.length_take];omega) (by rw[List.length_take];omega) ⟨w1,λ_ _ _ z=>(nomatch z),λ_ _=>zc _,λ_ z=>(nomatch z),zc _⟩;obtain⟨O3,q3,cl,L,P,e6,j⟩:=NQ (X:=X) (c0:=some (.int v)) (x4:=J) (x5:=I) (tl:=[none,none,none,none,none,none,none,none,none,none]) R hN h4 (by rw[List.length_take];omega) N.reverse O2 q2 (λ_=>false) L _ none (λn h=>⟨List.mem_reverse.mp h,rfl⟩) (List.pairwise_reverse.mpr (List.Pairwise.imp (λ{a b} z=>Ne.symm z) hN.nd)) (by rw[List.length_take,List.length_reverse];omega) w2
 have ll:=j.ll;rw[List.length_take,List.length_reverse] at ll
 have Z:L.length<=80000:=by omega
 obtain⟨d,U,fw,e8,T,k8⟩:=Nt hN false (λr W=>(j.rz r W).1) Z O3
 have z:=iH (g:=mgN 0) (t:=bV) (m:=aX (aj (aa 0) (aj (kI 0) ao))) (λρ=>∃a,ρ=[a]) D.str (λn=>.tup [.str n,.int 0]) N [none] d [] ⟨none,rfl⟩ (by
  rintro n hn' ρ ⟨a,rfl⟩
  exact⟨_,rfl,⟨_,rfl⟩,rfl,rfl⟩)
 rw[zU] at z
 have dc:um (aj (bO (bz (aa 2)) 1 [] (mgN 0) bV (aX (aj (aa 0) (aj (kI 0) ao)))) ao) [some X,some (.int v),some (dNm N),some (.ob 0),J,I,P,some (.lst (cR false N 0 L)),some (.ob U),some (.int (wd N:Int)),none,none,none,none,none,none,none] d=.ok (.ob d.length) (d++[.dk (N.map λn=>(kyN n,D.int 0))]):=by
  unfold um;rw[ma1 (jT (m:=bz (aa 2)) (own:=1) (cap:=[]) (dj (l:=N.map D.str) rfl) (by rw[zf];omega) rfl z),aL]
  show(match mq (N.map λn=>.tup [.str n,.int 0]) with
   |some Q=>if Q.length<=1000000 then Res.ok (D.ob d.length) (d++[Ob.dk (uh Q)]) else .no
   |none=>.no)=_
  rw[N7];refine(if_pos (by rw[zf];omega)).trans ?_;rw[show uh (N.map λn=>(kyN n,D.int 0))=_ from N8 N [] hN.nd];rfl
 obtain⟨f,G,F,E,C,y,u,e9,Y⟩:=N6 (X:=X) (c0:=some (.int v)) (x4:=J) (x5:=I) (x6:=P) (ro:=0) (sp:=d.length) (L:=L) hN h4 j.rz Z (Nat.ne_of_gt (dH T.dk)) L.length 0 (d++[.dk (N.map λn=>(kyN n,D.int 0))]) none none none none none none (by omega) (T.kp il) fO;rw[jo] at Y
 have sl:∀(ρ:aK) (O:au),bz (mSl (aa 0) (moS (kI 1)) (moS (kI 51))) (some X::ρ) O=.ok (((ns.drop 1).take 50).map D.int) O:=λρ O=>by
  rw[oF,hX];show(ofO (gSl (aV O (.lst (ns.map D.int))) (some 1) (some 51)) O).bind _=_;rw[fH,Hu,jF,aL,show(some 1:Option Int)=some ((1:Nat):Int) from rfl,show(some 51:Option Int)=some ((51:Nat):Int) from rfl,Bo,<-List.map_drop,<-List.map_take];rfl
 rw[<-hX] at ev ⊢;unfold bFd at e5;unfold bCl at e6;unfold bCk eC at e9
 have sm:aU nQ (aj (qw (aa 10)) ao) (eC X (some (.int v)) N 0 J I P L U d.length G F E C y u) f=.ok (.int (L.length:Int)) f:=by
  have lv:qw (aa 10) (eC X (some (.int v)) N 0 J I P L U d.length G F E C y u) f=.ok (.lst (N.map λn=>D.int (cN L L.length n:Int))) f:=by
   unfold qw;rw[show aa 10 (eC X (some (.int v)) N 0 J I P L U d.length G F E C y u) f=.ok (.ob d.length) f from rfl,aL];dsimp only;rw[Y];dsimp only;rw[zO];rfl
  refine gW (ma1 lv) ?_
  rw[zg,fH,show List.map (aV f) []=[] from rfl,Qt1 (λn=>(cN L L.length n:Int)) N (λn _=>by
   have:cN L L.length n<=L.length:=zN (List.length_filter_le _ _) (by rw[List.length_take];omega)
   omega) (by omega)]
  have s:=sum_c hN.nd L λr W=>(j.rz r W).1.1
  have c:∀l:List (List Nat),(l.map λn=>(cN L L.length n:Int)).sum=(((l.map λn=>(L.filter λr=>decide (r.1=n)).length).sum:Nat):Int):=λl=>by
   induction l with
   |nil=>rfl
   |cons a l ih =>
    rw[zg,zg,List.sum_cons,List.sum_cons,ih,Int.natCast_add];unfold cN;rw[List.take_length]
  rw[c,s]
 refine⟨f,cO (b:=Al) (ρ:=[some X,none,none,none,none,none,none,none,none,none,none,none,none,none,none,none,none]) ?_⟩;unfold Al;exact .trans (aR (bh ((bw (maS rfl (ma1 (x:=.int 0) rfl))).trans ev))) (.trans (aR (bh ((bw (maS (x:=.int v) rfl (ma1 (add_n (a:=2) (b:=m) rfl ((dU (gf (c:=v) rfl rfl (by decide) (by decide)) rfl (by decide)).trans (by rw[<-hm];rfl)))))).trans eN))) (.trans (aR (iQ e4)) (.trans (aR (fQ (sl _ _) e5)) (.trans (aR (fQ (dj (l:=N.reverse.map D.str) (by rw[List.map_reverse];rfl)) e6)) (.trans (aR (bh ((dI (n:=0) rfl j.w.r rfl rfl).trans (Qp7 j.w.r j.w.rows)))) (.trans (aR (iQ ((bw (Cz (maS (x:=dNm N) rfl (ma1 (x:=.lst (cR false N 0 L)) rfl)))).trans e8))) (.trans (aR (bh (Mj hN (i:=2) rfl))) (.trans (aR (iQ dc)) (.trans (aR (fQ ((Am (lD (l:=cR false N 0 L) rfl) (by rw[m5];omega)).trans (by rw[m5,fY,List.range_eq_range'])) e9)) (fj (aP (x:=.int (L.length:Int)) ((lD (l:=cR false N 0 L) rfl).trans (by rw[m5])) sm (congrArg (λx=>some (D.bl x)) (zv rfl)))))))))))))
def mkK{K:PySem.W.Frag}{h:Heap}{mg:Str->Option Value}{x:Str}{u:Value}{v:V}(X:K.In h)(G:h.Ns mainGlobals mg)(a:PySem.W.nsIn K mainGlobals x=some (some u))(r:RelV v u):∃u,mg x=some u/\RelV v u:=⟨_,PySem.W.mg_of X G a,r⟩
def mkT{K:PySem.W.Frag}{h:Heap}{mg:Str->Option Value}{x:Str}{p:Addr}{c:Value}{d:Option Addr}{i:Array Value}{n:Nat}{s:Array (Option Value)}{ls:List (List Nat)}(X:K.In h)(G:h.Ns mainGlobals mg)(a:PySem.W.nsIn K mainGlobals x=some (some (.ref p)))(l:K.lookup p=some ⟨c,d,.seq i n,s⟩)(t:c=.type "tuple")(z:i.size<=sizeLine)(v:aF (ls.map λl=>V.str (S l)) i.toList):tO K mg x ls:=⟨_,_,_,_,PySem.W.mg_of X G a,l,t,rfl,z,v⟩
def fin{l:PySem.W.OpenLaw}{w:World}{K:PySem.W.Frag}{h:Heap}{mg:Str->Option Value}{fa:Addr}(X:K.In h)(G:h.Ns mainGlobals mg)(j:mg "law" = some (.ref fa))
  {Y U T R Q P:Addr}{m O:Option Addr}{t:Array (Option Value)}{u L J I E C:Value}
  (y:PySem.W.nsIn K mainGlobals "law" = some (some (.ref Y))) (x:K.lookup Y=some ⟨u,m,.func (PySem.W.fnOf "law" "law" (cP gG) (bY gG) (aO gG) .none L J I O E C),t⟩)
  (F:(ClsAt K "Reader" U)->(ClsAt K "Maker" T)->(ClsAt K "Hand" R)->(ClsAt K "Leaps" Q)->(ClsAt K "Roll" P)->∀base,Fc l.prog w K mg base) (z0:ClsAt K "Reader" U) (z1:ClsAt K "Maker" T) (z2:ClsAt K "Hand" R) (z3:ClsAt K "Leaps" Q) (z4:ClsAt K "Roll" P):
  ∃fd:FuncData,(∀(s:Shared) (v:Value),BindsTo s fd ⟨[v],[]⟩ [("_law_script",v)])/\∀base:Heap,K.In base->base.Ns mainGlobals mg->cz l.prog w K mg base CX0 12 fa fd ["_law_script"] (tK K):=by
 have e:=j.symm.trans (PySem.W.mg_of X G y);cases e;refine⟨PySem.W.fnOf "law" "law" (cP gG) (bY gG) (aO gG) .none L J I O E C,λs v=>.of_eq rfl,λbase _ _=>?_⟩;obtain⟨f',fd',f,hk',hb',F',oc',od',Z,d⟩:=QyW (F z0 z1 z2 z3 z4 base);have e2:=(PySem.W.mg_of X G y).symm.trans f;cases e2;have e3:=x.symm.trans d;cases e3;exact F'.imp (XR Qs6)
def walk{l:PySem.W.OpenLaw}      {K:Params->PySem.W.Frag}(hn:l.most=some 63)(hdf:d.params.defaults=[])
  (hY:∀(w:World) (h:Heap),YP w h->(K w.params).In h)
  (F:∀(w:World) (mg:Str->Option Value) (fa:Addr) (h:Heap),(K w.params).In h->h.Ns mainGlobals mg->mg d.name=some (.ref fa) ->
   ∃fd:FuncData,(∀(s:Shared) (u:Value),BindsTo s fd ⟨[u],[]⟩ [("_law_script",u)])/\∀base:Heap,(K w.params).In base->base.Ns mainGlobals mg->cz l.prog w (K w.params) mg base CX0 12 fa fd ["_law_script"] (tK (K w.params))):
  PySem.W.WalkO q loose XP YP l.row.toRowW d [] (λf vs=>PySem.call f vs):=
 L2.walk_ofR (n:=63) (k:=12) (x:="_law_script") (CX:=λ_=>CX0) (sp:=λw=>tK (K w.params)) hn (by decide) hdf ⟨rfl,by decide,by decide⟩ hY F (λ_ _ a ns hl ho hS=>⟨a,ns,rfl,hS,hl,ho,λ_=>rfl⟩) λ_ _ _ _ _ z=>z
end K57
open PySem PySem.W PyProof.Rows L2
set_option maxRecDepth 100000 in
set_option maxHeartbeats 0 in
theorem PySem.Challenge.cw_outweave_k57_whole_no_row_leaks_holds : PySem.Challenge.rw_outweave_k57_whole_no_row_leaks.Holds := by
 w_on;o_law;k_head;(case hw=>w_witness2)
 k_fill
 refine K57.walk (l:=PySem.Challenge.rw_outweave_k57_whole_no_row_leaks) rfl rfl (λw h Y=>PySem.W.kIn_of Y) ?F
 case F =>
  intro w mg fa h X G hmg
  refine' K57.fin X G hmg ?a ?b (λ_ _ _ _ _=>?f) ?z0 ?z1 ?z2 ?z3 ?z4
  (case a|b=>k_is)
  (case z0|z1|z2|z3|z4=>constructor;all_goals k_is)
  (case f=>intro base;constructor;all_goals repeat' first|((with_reducible apply mkD X G)<;>k_is)|((with_reducible refine ClsAt.dm ‹_› X G ?_);apply mkM<;>k_is)|((with_reducible refine ClsAt.kf ‹_› X G ?_);k_is)|((with_reducible refine ClsAt.dc ‹_› X G ?_);apply mkM<;>k_is)|((with_reducible refine ClsAt.dcd ‹_› X G ?_);apply QCH<;>k_is)|((with_reducible apply QCX X G)<;>k_is)|((with_reducible apply K57.mkK X G)<;>first|exact⟨_,rfl⟩|k_is)|((with_reducible apply K57.mkT X G)<;>first|exact rfl|k_is|decide +kernel|repeat (first|exact .nil|refine .cons ⟨_,rfl⟩ ?_))|((with_reducible apply PySem.W.mg_none_of X G)<;>k_is)|((with_reducible show kZ _=true);first|kernel_rfl|decide +kernel)|constructor)
