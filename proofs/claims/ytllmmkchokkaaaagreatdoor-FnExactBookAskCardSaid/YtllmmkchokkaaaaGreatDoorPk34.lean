import Derived.Test.YtllmmkchokkaaaaGreatDoorPk01
import Derived.Lib.ItoaNum
import Derived.Deep.RegionWith
import Derived.Test.YtllmmkchokkaaaaGreatDoorPk04
import Derived.Deep.AppendSrc
import Derived.Deep.RegionLaw
import Derived.Lib.UnsafeStr
import Derived.Laws.BitsLemmas
import Derived.Shelf.Strings.Builder1
import Derived.Shelf.Strings.Builder2
import Derived.Shelf.Strings.OnBuilder
import Derived.Shelf.Strconv.Itoa0
import Derived.Shelf.Strconv.Itoa1
import Derived.Shelf.LaysM
import Derived.Shelf.Strconv.Itoa2
import Derived.Shelf.Strconv.Itoa3
import Derived.Test.YtllmmkchokkaaaaGreatDoorRows
import Derived.Lib.AppendIntMem
import Derived.Lib.AppendStr
import Derived.Laws.Externs
import Derived.Shelf.RegionOpenPlain
import Derived.Test.YtllmmkchokkaaaaGreatDoorPk02
import Derived.Test.YtllmmkchokkaaaaGreatDoorPk32
import Derived.Test.YtllmmkchokkaaaaGreatDoorPk33
set_option maxRecDepth 100000
set_option maxHeartbeats 2000000
set_option maxRecDepth 100000
namespace Go.Proofs.YtllmmkchokkaaaaGreatDoor
open Go.RowKit Go.Proofs.Tryz
theorem QA (W:World)(b:Nat)(x:Int)(hx0:0<=x)(hx1:x<256)(hc:W.cell? ⟨b,0,none⟩=some (.int .u8 x)):(convert 217 9 (Value.slice (some ⟨b,0,none⟩) 1 1)).run prog W=.ok (.s ⟨#[UInt8.ofNat x.toNat]⟩) W:=by
 have:=run_convert_bytes_back (P:=prog) W 217 9 5 ⟨b,0,none⟩ 1 [UInt8.ofNat x.toNat] underlying217 underlying5 underlying9 (by
  intro i hi;have:i=0:=by simpa using hi
  subst this;have e:((⟨b,0,none⟩:Addr).add 0)=⟨b,0,none⟩:=by simp[Addr.add]
  rw[e,hc];simp;omega);simpa using this
theorem SR{x:Int}(h0:0<=x)(h1:x<=9223372036854775807):IntKind.i64.wrap x=x:=by have e:x%2^64=x:=Int.emod_eq_of_lt h0 Za;simp only[IntKind.wrap,IntKind.bits,e];rw[if_neg (by simp;intro _;omega)]
theorem LF{x:Int}(h0:0<=x)(h1:x<=255):IntKind.u8.wrap x=x:=by have e:x%2^8=x:=Int.emod_eq_of_lt h0 Za;simp only[IntKind.wrap,IntKind.bits,e];rw[if_neg (by simp[IntKind.signed])]
theorem VL (u:Nat):Lib.nDigits u<=u+1:=by induction u using Nat.strongRecOn with
 |ind u ih=>
  by_cases h:u<10;.rw[Lib.nDigits_small h];omega
  .rw[Lib.nDigits_big h];have:=ih (u/10) Za;omega
theorem aL (q:Nat):(⟨(Lib.decDigits q).toArray⟩:ByteArray).size<=q+1:=by
 have:=VL q;have e:(⟨(Lib.decDigits q).toArray⟩:ByteArray).size=(Lib.decDigits q).length:=by simp[ByteArray.size]
 rw[e,Lib.decDigits_length];exact this
theorem dB{n q:Nat}(hn:(n:Int)<=9223372036854775807)(e:q=n/10):IntKind.i64.wrap ((n:Int)/10)=(q:Int):=by subst e;rw[wrap_i64_ediv _ _ Za Za Za];omega
theorem lQ{n r:Nat}(e:r=n%10):(n:Int).tmod 10=(r:Int):=by subst e;rw[Int.tmod_eq_emod_of_nonneg Za];omega
theorem lC (a b:List UInt8):(⟨a.toArray⟩:ByteArray)++⟨b.toArray⟩=⟨(a++b).toArray⟩:=by apply ByteArray.ext;simp
theorem nB:∀(n:Nat)(_:(n:Int)<=9223372036854775807)(w:World),Calls prog 168 #[.i n] w λe w'=>e=.returned (.s ⟨(Lib.decDigits n).toArray⟩)/\Below w.1.size w w':=by intro n;induction n using Nat.strongRecOn with
 |ind n ih=>
 intro hn w;go_enter func168,ntmps168;by_cases h:n<10;.have hcv:=QA (w.alloc (.cells #[.int .u8 (48+(n:Int))] 5)) w.1.size (48+(n:Int)) Za Za Ze;have e:(48+(n:Int)).toNat=48+n:=Za;obtain⟨y,hy⟩:∃y:UInt8,y=UInt8.ofNat (48+n):=⟨_,rfl⟩;rw[e,<-hy]at hcv;have HY:=Ai (Lib.decDigits_one h);rw[<-hy]at HY;clear hy e;go_wp2;go_ret;exact⟨by rw[HY.out];rfl,(Ak _ _).alloc Bj _⟩
 .have h1:¬(n:Int)<10:=Za;obtain⟨q,hq⟩:∃q:Nat,q=n/10:=⟨_,rfl⟩;obtain⟨r,hr⟩:∃r:Nat,r=n%10:=⟨_,rfl⟩;have hr10:r<10:=Za;have hw:=dB hn hq;have hm:=lQ hr;have hqn:q<n:=Za;have hD:Lib.decDigits n=Lib.decDigits q++[UInt8.ofNat (48+r)]:=by rw[Lib.decDigits,dif_neg h,hq,hr]
  obtain⟨y,hy⟩:∃y:UInt8,y=UInt8.ofNat (48+r):=⟨_,rfl⟩;rw[<-hy]at hD;have hcv:∀(W:World)(b:Nat),W.cell? ⟨b,0,none⟩=some (.int .u8 (48+(r:Int)))->(convert 217 9 (Value.slice (some ⟨b,0,none⟩) 1 1)).run prog W=.ok (.s ⟨#[y]⟩) W:=λW b hc=>by have:=QA W b (48+(r:Int)) Za Za hc;rwa[show(48+(r:Int)).toNat=48+r by omega,<-hy]at this
  have hw2:IntKind.i64.wrap (48+(r:Int))=48+(r:Int):=SR Za Za;have hw3:IntKind.u8.wrap (48+(r:Int))=48+(r:Int):=LF Za Za;have HD:=Ai hD;have hq2:(q:Int)<=922337203685477580:=Za;obtain⟨s,hs⟩:∃s:ByteArray,s=⟨(Lib.decDigits q).toArray⟩:=⟨_,rfl⟩;have hss:(s.size:Int)<=(q:Int)+1:=by rw[hs];have:=aL q;omega
  have yA:=Ai (ih q hqn Za);rw[<-hs]at yA;have HS:=Ai hs;clear hs;clear hD hq hr ih hqn h hy;go_wp2_with fail;go_region_with(first|(go_at_call 168;go_must(refine(yA _).mono ?_;rintro e w1 ⟨rfl,hb1⟩;first|(have c1:w1.cell? ⟨w.1.size,0,none⟩=some (.int .u8 (48+(r:Int))):=by(rw[hb1.cell (p:=⟨w.1.size,0,none⟩) Ze];simp;done))|skip)));all_goals
   have hB:Below w.1.size w w1:=by first
    |exact((Ak w.1.size w).drew).trans (hb1.mono Ze)
    |exact(((Ak w.1.size w).alloc Bj _).drew).trans (hb1.mono Ze)
   go_wp2;go_ret;refine⟨?_,?_⟩;.rw[HD.out,<-lC,<-HS.out];rfl
   .first
    |exact hB
    |exact hB.alloc hB.size _
end Go.Proofs.YtllmmkchokkaaaaGreatDoor
set_option maxRecDepth 100000
namespace Go.Proofs.YtllmmkchokkaaaaGreatDoor
open Go.RowKit Go.Proofs.Tryz
def K3:ByteArray:=⟨#[48,49,50,51,52,53,54,55,56,57,97,98,99,100,101,102]⟩
def If (b:UInt8):Bool:=decide (32<=(b.toNat:Int))&&decide ((b.toNat:Int)<=126)&&!decide ((b.toNat:Int)=34)&&!decide ((b.toNat:Int)=92)
def qB (b:UInt8):List UInt8:=if If b then[b]else[92,Do K3 (b.toNat/16),Do K3 (b.toNat%16)]
def OP (s:ByteArray):Nat->List UInt8|0=>[34]|k+1=>OP s k++qB (Do s k)
def OC (s:ByteArray):List UInt8:=OP s s.size++[34]
theorem qI (b:UInt8):(qB b).length<=3:=by unfold qB;split<;>simp
theorem KR (s:ByteArray):∀k,(OP s k).length<=3*k+1
 |0=>by simp[OP]
 |k+1=>by have:=KR s k;have:=qI (Do s k);simp only[OP,List.length_append];omega
theorem JN:(prog.info? 5).map (λi=>(i.zero,i.size,i.bytes))=some (some (.int .u8 0),1,1):=Zc
def En (w:World)(base:Nat)(v:Value)(l:List UInt8):Prop:=w.ownsRow base 5 1 v l.length (Lib.byteCells l)
theorem C9 (w:World)(l:List Value)(t:TypeId):∀j u,l[j]?=some u->(w.alloc (.cells l.toArray t)).cell? ((⟨w.1.size,0,none⟩:Addr).add j)=some u:=λj u h=>by
 have e:((⟨w.1.size,0,none⟩:Addr).add j)=⟨w.1.size,j,none⟩:=by simp only[Addr.add];split<;>simp_all
 rw[e,At];simpa using h
theorem En.app{w':World}{base:Nat}{v':Value}{l m:List UInt8}(h:w'.ownsRow base 5 1 v' (l.length+m.length) (Lib.byteCells l++Lib.byteCells m)):En w' base v' (l++m):=by
 unfold En;rw[List.length_append];have e:Lib.byteCells (l++m)=Lib.byteCells l++Lib.byteCells m:=by simp[Lib.byteCells]
 rw[e];exact h
theorem DJ{W w w':World}{base B:Nat}{v:Value}{n:Nat}{e:TypeId}{z:Nat}{xs:List Value}(hb:Below base W w)(hB:base<=B)(hBw:B<=w.1.size)(ho:w.ownsRow B e z v n xs)(hg:w.grownBy w' v.ownBlock):Below base W w':=hb.grown hg Za (λk hk=>AA hB (ho.lt k hk).1)
theorem dY{W:World}{base:Nat}{v:Value}{L M:List UInt8}(b:Nat)(ho:En W base v L)(hc:∀j u,(Lib.byteCells M)[j]?=some u->W.cell? ((⟨b,0,none⟩:Addr).add j)=some u)(hl:(L.length:Int)+M.length<=70368744177664)(hbase:base<=W.1.size)(ty:TypeId):∃v2 w2,(Builtin.append_ #[217,217] ty #[v,.l (some ⟨b,0,none⟩) M.length M.length]).run prog W=.ok v2 w2/\En w2 base v2 (L++M)/\Below base W w2:=by obtain⟨i0,hi0,hz0,hz1,hz2⟩:=info_parts JN;obtain⟨v2,w2,hr,ho2,hg,_⟩:=run_append_own (P:=prog) W base 217 ty 5 i0 (.int .u8 0) 1 1 underlying217 hi0 hz0 hz1 hz2 rfl Zb v _ _ ho ⟨b,0,none⟩ M.length M.length (Lib.byteCells M) (by simp[Lib.byteCells]) hc YO Zn Za hbase;exact⟨v2,w2,hr,En.app ho2,DJ BF Bj hbase ho hg⟩
theorem oO{ops:Array Oper}{o:Oper}{a:Act}{w:World}{K:Act->World->Prop}{Q:Exit->Act->World->Prop}{E:Prop}(hg:o.guard=none)(s x:Operand)(hop:o.op=Op.call {callee:=Callee.builtin Builtin.append,args:=#[s,x],argTypes:=#[217,217]})(base:Nat)(v:Value)(L M:List UInt8)(b:Nat)(hs:a.eval s=v)(hx:a.eval x=.l (some ⟨b,0,none⟩) M.length M.length)(ho:En w base v L)(hc:∀j u,(Lib.byteCells M)[j]?=some u->w.cell? ((⟨b,0,none⟩:Addr).add j)=some u)(hl:(L.length:Int)+M.length<=70368744177664)(hbase:base<=w.1.size)(hK:∀v2 w2,En w2 base v2 (L++M)->Below base w w2->K (a.put o.dst v2) w2):if Region.wanted o (yielded ops a.tmps)=true then Oper.wp prog o a w K Q else E:=by
 have hw:Region.wanted o (yielded ops a.tmps)=true:=by simp[Region.wanted,hg]
 rw[if_pos hw];obtain⟨v2,w2,hr,h2,h3⟩:=dY b ho hc hl hbase o.type;unfold Oper.wp execOp;simp only[hop,resolve,invoke,builtin,K4,Sem.run_pure,Result.andThen_ok,List.map_toArray,Dn,D7,hs,hx,hr];exact hK v2 w2 h2 h3
theorem Q7{W:World}{base:Nat}{v:Value}{l:List UInt8}(h:En W base v l)(h0:l≠[]):(convert 217 9 v).run prog W=.ok (.s ⟨l.toArray⟩) W:=by
 have hl0:0<l.length:=List.length_pos_iff.2 h0;obtain⟨g,cap,rfl⟩:∃g cap,v=.l (some ⟨g,0,none⟩) l.length cap:=by
  rcases h.2 with⟨_,hz⟩|⟨g,cap,cur,hv,_⟩;.omega
  .exact⟨g,cap,hv⟩
 refine run_convert_bytes_back (P:=prog) W 217 9 5 ⟨g,0,none⟩ cap l underlying217 underlying5 underlying9 ?_;intro i hi;have:=World.ownsRow.cells h (g:=g) rfl i (.int .u8 (l[i].toNat:Int)) (by simp[Lib.byteCells,hi]);exact this
theorem cN{b:UInt8}(h:If b=true):qB b=[b]:=by unfold qB;rw[if_pos h]
theorem oE{b:UInt8}(h:If b=false):qB b=[92,Do K3 (b.toNat/16),Do K3 (b.toNat%16)]:=by unfold qB;rw[if_neg (by rw[h];decide)]
theorem OE (i:Nat)(h:i<16)(w:World):(Instr.index 9 (.s ⟨#[48,49,50,51,52,53,54,55,56,57,97,98,99,100,101,102]⟩) (.int .u8 (i:Int))).run prog w=.ok (.int .u8 (Do K3 i).toNat) w:=by have hz:K3.size=16:=rfl;have:=run_index_string (P:=prog) w 9 K3 .u8 (i:Int) underlying9;rw[dif_pos ⟨Za,by rw[hz];omega⟩]at this;rw[Jq K3 i Za];exact this
theorem jF{P:Prop}(h:P:=by have hks:k=s.size:=Za;subst hks;have hl:=KR s s.size;have STEP:=Ai (show OC s=OP s s.size++[34]from rfl);obtain⟨L,hL⟩:∃L,OP s s.size=L:=⟨_,rfl⟩;rw[hL]at hown hl STEP;have HO:=Ai (hown.alloc (.cells #[.int .u8 34] 5));clear hown hL;go_wp2_with (at_builtin;go_must(refine wpList_append_own _ rfl _ _ 217 rfl w.1.size 5 i0 (.int .u8 0) 1 1 underlying217 hi0 hz0 hz1 hz2 rfl Zb _ _ _ rfl HO ⟨wr.1.size,0,none⟩ 1 1 (Lib.byteCells [34]) rfl rfl (C9 wr _ 5) YO Zn Za nX ?_;intro v2 w2 hown2 hgrow2 _));have B2:=DJ (hb.alloc hb.size _) Bj nX HO hgrow2;have O2:En w2 w.1.size v2 (L++[34]):=En.app hown2;have hcv:=Q7 O2 Ze;rw[<-STEP.out]at hcv;clear hown2 hgrow2 O2 HO STEP;rw[hcv];simp only[Result.andThen];rw[Bq];go_wp2;go_ret;exact⟨rfl,B2⟩):P:=h
theorem X6 (s:ByteArray)(w:World)(hs:(s.size:Int)<=1099511627776):Calls prog 169 #[.s s] w λe w'=>e=.returned (.s ⟨(OC s).toArray⟩)/\Below w.1.size w w':=by
 obtain⟨i0,hi0,hz0,hz1,hz2⟩:=info_parts JN;go_enter func169,ntmps169;go_wp2;go_loopw[3,5] (λv i wr=>∃k:Nat,k<=s.size/\i=.i k/\En wr w.1.size v (OP s k)/\Below w.1.size w wr)(λ_ i _=>s.size-(intOf i).toNat);case atStart=>exact⟨0,Ap _,rfl,World.ownsRow_lit w #[.int .u8 34] 1 Bj Zn rfl,(Ak _ _).alloc Bj _⟩
 case round=>
  obtain⟨k,hk,rfl,hown,hb⟩:=hrel;by_cases hkn:k<s.size;.have HB:=Ai (Jq s k hkn);cases hp:If (Do s k)with
   |true=>
    have hp2:=hp;rw[HB.out]at hp2;simp only[If,AG,decide_eq_true_eq,Bool.not_eq_true',decide_eq_false_iff_not]at hp2;obtain⟨⟨⟨p1,p2⟩,p3⟩,p4⟩:=hp2;have q3:((s[k].toNat:Int) !=34)=true:=by simpa using p3
    have q4:((s[k].toNat:Int) !=92)=true:=by simpa using p4
    have hl:=KR s k;have STEP:=Ai (show OP s (k+1)=OP s k++[s[k]]by rw[OP,cN hp,HB.out]);obtain⟨L,hL⟩:∃L,OP s k=L:=⟨_,rfl⟩;rw[hL]at hown hl STEP;have HO:=Ai (hown.alloc (.cells #[.int .u8 (s[k].toNat:Int)] 5));clear hown hL hp HB;go_wp2_with (at_builtin;go_must(refine wpList_append_own _ rfl _ _ 217 rfl w.1.size 5 i0 (.int .u8 0) 1 1 underlying217 hi0 hz0 hz1 hz2 rfl Zb _ _ _ rfl HO ⟨wr.1.size,0,none⟩ 1 1 (Lib.byteCells [s[k]]) rfl rfl (C9 wr _ 5) YO Zn Za nX ?_;intro v2 w2 hown2 hgrow2 _));have B2:=DJ (hb.alloc hb.size _) Bj nX HO hgrow2;have O2:En w2 w.1.size v2 (L++[s[k]]):=En.app hown2;go_roundw;case rel=>exact⟨k+1,Za,by go_num,by rw[STEP.out];exact O2,B2⟩
    case measure=>simp[intOf];omega
   |false=>
    have hl:=KR s k;have STEP:=Ai (show OP s (k+1)=OP s k++[92,Do K3 (s[k].toNat/16),Do K3 (s[k].toNat%16)]by rw[OP,oE hp,HB.out]);obtain⟨L,hL⟩:∃L,OP s k=L:=⟨_,rfl⟩;rw[hL]at hown hl STEP;have hx:=s[k].toNat_lt;have hcase:(s[k].toNat:Int)<32\/(32<=(s[k].toNat:Int)/\(126<(s[k].toNat:Int)\/((s[k].toNat:Int)<=126/\((s[k].toNat:Int)=34\/(s[k].toNat:Int)=92)))):=by rw[HB.out]at hp;simp only[If,Jv,decide_eq_false_iff_not,Bool.not_eq_false',decide_eq_true_eq]at hp;omega
    obtain⟨d1,hd1⟩:∃d,Do K3 (s[k].toNat/16)=d:=⟨_,rfl⟩;obtain⟨d2,hd2⟩:∃d,Do K3 (s[k].toNat%16)=d:=⟨_,rfl⟩;have HO:=Ai (hown.alloc (.cells #[.int .u8 92,.int .u8 (d1.toNat:Int),.int .u8 (d2.toNat:Int)] 5)).drew;rw[hd1,hd2]at STEP;obtain⟨x,hxe⟩:∃x:Nat,s[k].toNat=x:=⟨_,rfl⟩;obtain⟨q,hq⟩:∃q:Nat,q=x/16:=⟨_,rfl⟩;obtain⟨r,hr⟩:∃r:Nat,r=x%16:=⟨_,rfl⟩;have hq16:q<16:=Za;have hr16:r<16:=Za;have k1:(x:Int)/16=(q:Int):=Za;have k2:(x:Int).tdiv 16=(q:Int):=by rw[Int.tdiv_eq_ediv_of_nonneg Za];omega
    have k3:IntKind.u8.wrap (q:Int)=(q:Int):=LF Za Za;have k4:(x:Int)%16=(r:Int):=Za;have k5:(x:Int).tmod 16=(r:Int):=by rw[Int.tmod_eq_emod_of_nonneg Za];omega
    have k6:IntKind.u8.wrap (r:Int)=(r:Int):=LF Za Za;have g1:=OE q hq16;have g2:=OE r hr16;rw[hq,<-hxe,hd1,hxe,<-hq]at g1;rw[hr,<-hxe,hd2,hxe,<-hr]at g2;rw[hxe]at hcase;clear hown hL hp HB hq hr hd1 hd2;have hcase2:(x:Int)<32\/(32<=(x:Int)/\(126<(x:Int)\/((x:Int)<=126/\(((x:Int) !=34)=false\/(((x:Int) !=34)=true/\((x:Int) !=92)=false))))):=by
     rcases hcase with h1|⟨h1,h2|⟨h2,h3|h3⟩⟩;.exact AD h1
     .exact Ax ⟨h1,AD h2⟩
     .exact Ax ⟨h1,Ax ⟨h2,AD (by simp[h3])⟩⟩
     .exact Ax ⟨h1,Ax ⟨h2,Ax ⟨by simp[h3],by simp[h3]⟩⟩⟩
    clear hcase;rcases hcase2 with h1|⟨h1,h2|⟨h2,h3|⟨h3,h4⟩⟩⟩;all_goals go_wp2_with fail;go_region_law(refine oO rfl (.tmp 41) (.tmp 54) rfl w.1.size _ L [92,d1,d2] wr.1.size rfl rfl HO (C9 wr (Lib.byteCells [92,d1,d2]) 5) Zd nX ?_;intro v2 w2 O2 b2);all_goals
      have B2:Below w.1.size w w2:=((hb.alloc hb.size _).drew).trans b2;go_wp2;go_roundw;case rel=>exact⟨k+1,Za,by go_num,by rw[STEP.out];exact O2,B2⟩
      case measure=>simp[intOf];omega
  .exact jF
end Go.Proofs.YtllmmkchokkaaaaGreatDoor
set_option maxRecDepth 100000
namespace Go.Proofs.YtllmmkchokkaaaaGreatDoor
open Go.RowKit Go.Proofs.Tryz
theorem Ty{x:Nat}(h:(decide (32<=(x:Int))&&decide ((x:Int)<=126)&&!decide ((x:Int)=34)&&!decide ((x:Int)=92))=false):(x:Int)<32\/(32<=(x:Int)/\(126<(x:Int)\/((x:Int)<=126/\(((x:Int) !=34)=false\/(((x:Int) !=34)=true/\((x:Int) !=92)=false))))):=by
 simp only[Jv,decide_eq_false_iff_not,Bool.not_eq_false',decide_eq_true_eq]at h;by_cases h1:(x:Int)<32;.exact AD h1
 .refine Ax ⟨Za,?_⟩;by_cases h2:126<(x:Int);.exact AD h2
  .refine Ax ⟨Za,?_⟩;by_cases h3:(x:Int)=34;.exact AD (by simp[h3])
   .refine Ax ⟨by simpa using h3,?_⟩;have:(x:Int)=92:=Za;simp[this]
theorem NN (b:UInt8)(w:World):Calls prog 208 #[.int .u8 (b.toNat:Int)] w λe w'=>e=.returned (.bool (If b))/\w'=w:=by obtain⟨x,hx⟩:∃x:Nat,b.toNat=x:=⟨_,rfl⟩;cases hp:If b with
 |true=>
  have hp2:=hp;simp only[If,AG,decide_eq_true_eq,Bool.not_eq_true',decide_eq_false_iff_not]at hp2;obtain⟨⟨⟨p1,p2⟩,p3⟩,p4⟩:=hp2;rw[hx]at p1 p2 p3 p4⊢;have q3:((x:Int) !=34)=true:=by simpa using p3
  have q4:((x:Int) !=92)=true:=by simpa using p4
  clear hp hx p3 p4;go_enter func208,ntmps208;go_wp2;go_ret;exact⟨rfl,rfl⟩
 |false=>unfold If at hp;rw[hx]at hp⊢;have hc:=Ty hp;clear hp hx;rcases hc with h1|⟨h1,h2|⟨h2,h3|⟨h3,h4⟩⟩⟩;all_goals go_enter func208,ntmps208;go_wp2;go_ret;exact⟨rfl,rfl⟩
theorem Qr (s:ByteArray)(w:World)(hs:(s.size:Int)<=1099511627776):Calls prog 196 #[.s s] w λe w'=>e=.returned (.s ⟨(OC s).toArray⟩)/\Below w.1.size w w':=by
 obtain⟨i0,hi0,hz0,hz1,hz2⟩:=info_parts JN;go_enter func196,ntmps196;go_wp2;go_loopw[3,9] (λv i wr=>∃k:Nat,k<=s.size/\i=.i k/\En wr w.1.size v (OP s k)/\Below w.1.size w wr)(λ_ i _=>s.size-(intOf i).toNat);case atStart=>exact⟨0,Ap _,rfl,World.ownsRow_lit w #[.int .u8 34] 1 Bj Zn rfl,(Ak _ _).alloc Bj _⟩
 case round=>
  obtain⟨k,hk,rfl,hown,hb⟩:=hrel;by_cases hkn:k<s.size;.have HB:=Ai (Jq s k hkn);have hl:=KR s k;obtain⟨L,hL⟩:∃L,OP s k=L:=⟨_,rfl⟩;cases hp:If (Do s k)with
   |true=>have STEP:=Ai (show OP s (k+1)=OP s k++[s[k]]by rw[OP,cN hp,HB.out]);rw[hL]at hown hl STEP;have HP:=Ai (HB.out▸hp);have HO:=Ai (hown.alloc (.cells #[.int .u8 (s[k].toNat:Int)] 5));clear hown hL hp HB;go_wp2_with (first
     |(go_at_call 208;refine(NN s[k] _).mono ?_;rintro e w1 ⟨rfl,rfl⟩;rw[HP.out])
     |(at_builtin;go_must(refine wpList_append_own _ rfl _ _ 217 rfl w.1.size 5 i0 (.int .u8 0) 1 1 underlying217 hi0 hz0 hz1 hz2 rfl Zb _ _ _ rfl HO ⟨w1.1.size,0,none⟩ 1 1 (Lib.byteCells [s[k]]) rfl rfl (C9 w1 _ 5) YO Zn Za nX ?_;intro v2 w2 hown2 hgrow2 _)));have B2:=DJ (hb.alloc hb.size _) Bj nX HO hgrow2;have O2:En w2 w.1.size v2 (L++[s[k]]):=En.app hown2;exact⟨⟨k+1,Za,by go_num,by rw[STEP.out];exact O2,B2⟩,by simp[intOf];omega⟩
   |false=>have STEP:=Ai (show OP s (k+1)=OP s k++[92,Do K3 (s[k].toNat/16),Do K3 (s[k].toNat%16)]by rw[OP,oE hp,HB.out]);rw[hL]at hown hl STEP;have hx:=s[k].toNat_lt;have HP:=Ai (HB.out▸hp);obtain⟨d1,hd1⟩:∃d,Do K3 (s[k].toNat/16)=d:=⟨_,rfl⟩;obtain⟨d2,hd2⟩:∃d,Do K3 (s[k].toNat%16)=d:=⟨_,rfl⟩;rw[hd1,hd2]at STEP;have HO:=Ai (hown.alloc (.cells #[.int .u8 92,.int .u8 (d1.toNat:Int),.int .u8 (d2.toNat:Int)] 5)).drew;clear hown hL hp HB;go_wp2_with (go_at_call 208;refine(NN s[k] _).mono ?_;rintro e w1 ⟨rfl,rfl⟩;rw[HP.out]);obtain⟨x,hxe⟩:∃x:Nat,s[k].toNat=x:=⟨_,rfl⟩;obtain⟨q,hq⟩:∃q:Nat,q=x/16:=⟨_,rfl⟩;obtain⟨r,hr⟩:∃r:Nat,r=x%16:=⟨_,rfl⟩;have hq16:q<16:=Za;have hr16:r<16:=Za;have g1:=OE q hq16;have g2:=OE r hr16;rw[hq,<-hxe,hd1,hxe,<-hq]at g1;rw[hr,<-hxe,hd2,hxe,<-hr]at g2;have k1:(x:Int)/16=(q:Int):=Za;have k2:(x:Int)/2^4=(q:Int):=Za;have k3:bits BinOp.and IntKind.u8 (x:Int) 15=(r:Int):=(u8_and15 (x:=(x:Int)) Za Za).trans Za;clear hq hr hd1 hd2;go_region_law(refine oO rfl (.tmp 21) (.tmp 28) rfl w.1.size _ L [92,d1,d2] w1.1.size rfl rfl HO (C9 w1 (Lib.byteCells [92,d1,d2]) 5) Zd nX ?_;intro v2 w2 O2 b2);all_goals have B2:Below w.1.size w w2:=((hb.alloc hb.size _).drew).trans b2;go_wp2;exact⟨⟨k+1,Za,by go_num,by rw[STEP.out];exact O2,B2⟩,by simp[intOf];omega⟩
  .exact jF
end Go.Proofs.YtllmmkchokkaaaaGreatDoor
set_option maxRecDepth 100000
namespace Go.Proofs
open Go.Shelf Go.Proofs.Tryz Go.Proofs.YtllmmkchokkaaaaGreatDoor
def Jr:Go.Shelf.Ren:=⟨λ|156=>206|165=>210|166=>211|169=>212|240=>214|241=>215|276=>220|277=>221|n=>n,λ|31=>108|9=>9|3=>3|4=>4|0=>0|20=>20|72=>262|76=>264|70=>260|37=>217|75=>86|127=>267|164=>203|5=>5|80=>249|n=>n,λ|n=>n⟩
theorem Ss:Go.Proofs.Lays.n156 prog Jr:={
 mixed:=Zc
 f156:=func206.trans (congrArg some Zc)
 f165:=func210.trans (congrArg some Zc)
 f166:=func211.trans (congrArg some Zc)
 f169:=func212.trans (congrArg some Zc)
 f240:=func214.trans (congrArg some Zc)
 f241:=func215.trans (congrArg some Zc)
 f276:=func220.trans (congrArg some Zc)
 f277:=func221.trans (congrArg some Zc)
 t0:=underlying0
 a0:=isAgg0
 z0:=sizeOf0
 v0:=zeroValue0
 t3:=underlying3
 a3:=isAgg3
 z3:=sizeOf3
 v3:=zeroValue3
 t4:=underlying4
 a4:=isAgg4
 z4:=sizeOf4
 v4:=zeroValue4
 t9:=underlying9
 a9:=isAgg9
 z9:=sizeOf9
 v9:=zeroValue9
 t20:=underlying20
 a20:=isAgg20
 z20:=sizeOf20
 v20:=zeroValue20
 t31:=underlying108
 a31:=isAgg108
 z31:=sizeOf108
 v31:=zeroValue108
 t37:=underlying217
 a37:=isAgg217
 z37:=sizeOf217
 v37:=zeroValue217
 t70:=underlying260
 a70:=isAgg260
 z70:=sizeOf260
 v70:=zeroValue260
 t72:=underlying262
 a72:=isAgg262
 z72:=sizeOf262
 v72:=zeroValue262
 t75:=underlying86
 a75:=isAgg86
 z75:=sizeOf86
 v75:=zeroValue86
 t76:=underlying264
 a76:=isAgg264
 z76:=sizeOf264
 v76:=zeroValue264
 t127:=underlying267
 a127:=isAgg267
 z127:=sizeOf267
 v127:=zeroValue267
 t164:=underlying203
 a164:=isAgg203
 z164:=sizeOf203
 v164:=zeroValue203}
theorem JL:Builder.Extra prog Jr:={
 sizeBuilder:=Zc
 liesBuilder:=Zc
 t5:=underlying5
 a5:=isAgg5
 z5:=sizeOf5
 v5:=zeroValue5
 infoByte:=Zc
 cellsByte:=Zc
 sizeByte:=Zc
 neB5:=by decide}
def MW:Go.Shelf.Ren:=⟨λ|171=>195|243=>207|246=>213|283=>216|284=>217|285=>218|286=>219|129=>223|317=>222|318=>224|319=>225|320=>226|337=>227|338=>228|n=>n,λ|3=>3|9=>9|2=>2|4=>4|171=>268|0=>0|53=>220|37=>217|5=>5|173=>271|212=>277|51=>278|20=>20|213=>279|46=>221|232=>283|233=>284|n=>n,λ|17=>2|18=>3|19=>4|n=>n⟩
theorem Qt:Go.Proofs.LaysM.n171 prog MW:={
 mixed:=Zc
 f129:=func223.trans (congrArg some Zc)
 f171:=func195.trans (congrArg some Zc)
 f243:=func207.trans (congrArg some Zc)
 f246:=func213.trans (congrArg some Zc)
 f283:=func216.trans (congrArg some Zc)
 f284:=func217.trans (congrArg some Zc)
 f285:=func218.trans (congrArg some Zc)
 f286:=func219.trans (congrArg some Zc)
 f317:=func222.trans (congrArg some Zc)
 f318:=func224.trans (congrArg some Zc)
 f319:=func225.trans (congrArg some Zc)
 f320:=func226.trans (congrArg some Zc)
 f337:=func227.trans (congrArg some Zc)
 f338:=func228.trans (congrArg some Zc)
 t0:=underlying0
 a0:=isAgg0
 z0:=sizeOf0
 v0:=zeroValue0
 t2:=underlying2
 a2:=isAgg2
 z2:=sizeOf2
 v2:=zeroValue2
 t3:=underlying3
 a3:=isAgg3
 z3:=sizeOf3
 v3:=zeroValue3
 t4:=underlying4
 a4:=isAgg4
 z4:=sizeOf4
 v4:=zeroValue4
 t5:=underlying5
 a5:=isAgg5
 z5:=sizeOf5
 v5:=zeroValue5
 t9:=underlying9
 a9:=isAgg9
 z9:=sizeOf9
 v9:=zeroValue9
 t20:=underlying20
 a20:=isAgg20
 z20:=sizeOf20
 v20:=zeroValue20
 t37:=underlying217
 a37:=isAgg217
 z37:=sizeOf217
 v37:=zeroValue217
 t46:=underlying221
 a46:=isAgg221
 z46:=sizeOf221
 v46:=zeroValue221
 t51:=underlying278
 a51:=isAgg278
 z51:=sizeOf278
 v51:=zeroValue278
 t53:=underlying220
 a53:=isAgg220
 z53:=sizeOf220
 v53:=zeroValue220
 t171:=underlying268
 a171:=isAgg268
 z171:=sizeOf268
 v171:=zeroValue268
 t173:=underlying271
 a173:=isAgg271
 z173:=sizeOf271
 v173:=zeroValue271
 t212:=underlying277
 a212:=isAgg277
 z212:=sizeOf277
 v212:=zeroValue277
 t213:=underlying279
 a213:=isAgg279
 z213:=sizeOf279
 t232:=underlying283
 a232:=isAgg283
 z232:=sizeOf283
 v232:=zeroValue283
 t233:=underlying284
 a233:=isAgg284
 z233:=sizeOf284
 v233:=zeroValue284
 g17:=Zc
 g18:=Zc
 g19:=Zc
 i0:=Zc
 i2:=Zc
 i3:=Zc
 i4:=Zc
 i5:=Zc
 i9:=Zc
 i20:=Zc
 i37:=Zc
 i46:=Zc
 i51:=Zc
 i53:=Zc
 i171:=Zc
 i173:=Zc
 i212:=Zc
 i232:=Zc
 i233:=Zc
 m17:=Zc
 m18:=Zc
 m19:=by kernel_rfl}
end Go.Proofs
namespace Go.Proofs.YtllmmkchokkaaaaGreatDoor
open Go.RowKit Go.Shelf Go.Proofs.Tryz
def OS:String:=((Rows.fnExactBookAskRow.laid.map (·.1))[2]?).getD default
def L3 (w:World):Prop:=Lib.TabIs prog w OS .u64 Lib.pow10Tab
theorem L3.below{w w':World}(h:L3 w)(hb:Below w.1.size w w'):L3 w':=Lib.tabBelow_of_tabIs h w' hb
theorem eS (n:Nat):Lib.itoa (n:Int)=Lib.decDigits n:=by unfold Lib.itoa;rw[if_neg Za];rfl
theorem bW (n:Nat)(hn:(n:Int)<=9223372036854775807)(w:World)(ht:L3 w):Calls prog 195 #[.int .i64 n] w λe w'=>e=.returned (.string ⟨(Lib.decDigits n).toArray⟩)/\Below w.1.size w w':=by refine(Any.strconv_Itoa Qt n Za Za w ht).mono ?_;rintro e w' ⟨rfl,k,os,rfl⟩;exact⟨by rw[eS],Lib.below_grow _ w Bj k os⟩
def Gq (xs:List ByteArray):List UInt8:=Lib.join (xs.map (·.data.toList)) [32]
theorem iC (bk o c:Nat)(xs:List ByteArray)(w:World)(hcells:∀(j:Nat) x,xs[j]?=some x->w.cell? ⟨bk,o+j,none⟩=some (.string x))(hbk:bk<w.1.size)(hN:(xs.length:Int)<=1099511627776)(hcap:xs.length<=c)(hlen:((Gq xs).length:Int)<=70368744177664):Calls prog 206 #[.slice (some ⟨bk,o,none⟩) xs.length c,.string ⟨#[32]⟩] w λe w'=>e=.returned (.string ⟨(Gq xs).toArray⟩)/\Below w.1.size w w':=Any.strings_Join Ss JL bk o c xs ⟨#[32]⟩ w hcells hbk Za hcap (by have:=hlen;unfold Gq at this;simpa using(by omega:(Lib.join (xs.map (·.data.toList)) [32]).length<=140737488355328))
end Go.Proofs.YtllmmkchokkaaaaGreatDoor
set_option maxRecDepth 100000
namespace Go.Proofs.YtllmmkchokkaaaaGreatDoor
open Go.RowKit Go.Proofs.Tryz
def KC (xs:List ByteArray):List Value:=xs.map Value.string
def SL (w:World)(base:Nat)(v:Value)(xs:List ByteArray):Prop:=∃g cap,v=.l (some ⟨g,0,none⟩) xs.length cap/\base<=g/\g<w.1.size/\xs.length<=cap/\(∀j,j<cap->(w.cell? ⟨g,j,none⟩).isSome=true/\w.frozen? ⟨g,j,none⟩=false)/\(∀j (h:j<xs.length),w.cell? ⟨g,j,none⟩=some (.s xs[j]))
theorem SL.grow{w w':World}{base B:Nat}{v:Value}{xs:List ByteArray}(h:SL w base v xs)(hb:Below B w w')(hB:w.1.size<=B):SL w' base v xs:=by obtain⟨g,cap,e1,e2,e3,e4,e5,e6⟩:=h;have hc:∀j,w'.cell? ⟨g,j,none⟩=w.cell? ⟨g,j,none⟩:=λj=>hb.cell (p:=⟨g,j,none⟩) (Aa e3 hB);have hf:∀j,w'.frozen? ⟨g,j,none⟩=w.frozen? ⟨g,j,none⟩:=λj=>hb.frozen (p:=⟨g,j,none⟩) (Aa e3 hB);exact⟨g,cap,e1,e2,Aa e3 hb.size,e4,λj hj=>by rw[hc,hf];exact e5 j hj,λj hj=>by rw[hc];exact e6 j hj⟩
theorem jH (w:World)(xs:List ByteArray):SL (w.alloc (.cells (KC xs).toArray 9)) w.1.size (.l (some ⟨w.1.size,0,none⟩) xs.length xs.length) xs:=by
 have hl:(KC xs).length=xs.length:=by simp[KC]
 refine⟨w.1.size,xs.length,rfl,Aw _,by rw[AE];exact Bp _,Aw _,λj hj=>⟨?_,?_⟩,λj hj=>?_⟩;.rw[At,Ah,BK Za];rfl
 .simp
 .rw[At,Ah,BK Za];simp[KC]
def Jk (xs:List ByteArray):ByteArray:=(⟨(Gq xs).toArray⟩:ByteArray)++(⟨#[10]⟩:ByteArray)
theorem Mm (base:Nat)(v:Value)(xs:List ByteArray)(w:World)(h:SL w base v xs)(hN:(xs.length:Int)<=1000000000)(hlen:((Gq xs).length:Int)<=1000000000000):Calls prog 194 #[v] w λe w'=>e=.returned (.s (Jk xs))/\Below w.1.size w w':=by
 obtain⟨g,cap,rfl,e2,e3,e4,e5,e6⟩:=h;have hJ:=iC g 0 cap xs w (λj x hx=>by
  have hj:j<xs.length:=by
   rcases As j xs.length with h|h;.exact h
   .rw[CL Za]at hx;cases hx
  rw[BK hj]at hx;obtain rfl:=Hw hx;rw[Bc];exact e6 j hj) e3 Za e4 Za;have hsz:(⟨(Gq xs).toArray⟩:ByteArray).size=(Gq xs).length:=by simp[ByteArray.size]
 obtain⟨jl,hjl⟩:∃jl:ByteArray,jl=⟨(Gq xs).toArray⟩:=⟨_,rfl⟩;rw[<-hjl]at hsz hJ;have hz:(jl.size:Int)<=1000000000000:=Za;have HE:Hid (Jk xs=jl++(⟨#[10]⟩:ByteArray)):=by rw[hjl];exact Ai rfl
 clear e5 e6 hlen hjl hsz;go_enter func194,ntmps194;go_wp2_with (go_at_call 206;refine hJ.mono ?_;rintro e w1 ⟨rfl,hb1⟩);go_ret;exact⟨by rw[HE.out];rfl,hb1⟩
end Go.Proofs.YtllmmkchokkaaaaGreatDoor
set_option maxRecDepth 100000
namespace Go.Proofs.YtllmmkchokkaaaaGreatDoor
open Go.RowKit Go.Proofs.Tryz
def Xu (x:Int)(b:UInt8):Int:=IntKind.u64.wrap (bits BinOp.xor IntKind.u64 x (IntKind.u64.wrap (b.toNat:Int))*1099511628211)
def Hl (x:Int)(l:List UInt8):Int:=l.foldl Xu x
theorem Pw (x:Int)(l m:List UInt8):Hl x (l++m)=Hl (Hl x l) m:=List.foldl_append
theorem QG (x:Int)(s:ByteArray)(k:Nat)(h:k<s.size):Hl x (s.data.toList.take (k+1))=Xu (Hl x (s.data.toList.take k)) s[k]:=by
 have h':k<s.data.toList.length:=by simpa using h
 rw[List.take_succ_eq_append_getElem h',Pw];rfl
theorem SH (v:Int)(s:ByteArray)(w:World)(hs:(s.size:Int)<=1099511627776):Calls prog 193 #[.int .u64 v,.s s] w λe w'=>e=.returned (.int .u64 (Hl v s.data.toList))/\w'=w:=by
 go_enter func193,ntmps193;go_wp2;go_loopw[0,8] (λv' i wr=>∃(k:Nat),k<=s.size/\i=.i k/\v'=.int .u64 (Hl v (s.data.toList.take k))/\wr=w)(λ_ i _=>s.size-(intOf i).toNat);case atStart=>exact⟨0,Ap _,rfl,rfl,rfl⟩
 case round=>
  obtain⟨k,hk,rfl,rfl,rfl⟩:=hrel;by_cases hkn:k<s.size;.have STEP:=Ai (QG v s k hkn);go_wp2;exact⟨⟨k+1,Za,by go_num,by rw[STEP.out];rfl,trivial⟩,by simp[intOf];omega⟩
  .have hks:k=s.size:=Za;subst hks;have STEP:=Ai (show s.data.toList.take s.size=s.data.toList from FG Ze);go_wp2;go_ret;exact⟨congrArg (λl=>Ending.returned (Value.int .u64 (Hl v l))) STEP.out,rfl⟩
end Go.Proofs.YtllmmkchokkaaaaGreatDoor
set_option maxRecDepth 100000
namespace Go.Proofs.YtllmmkchokkaaaaGreatDoor
open Go.RowKit Go.Proofs.Tryz
def Wh (v:Int)(i:Nat):Int:=v/2^(8*i)%256
def jV (v:Int)(k i:Nat):Value:=.int .u8 (if i<k then Wh v i else 0)
def Xz (v:Int)(k:Nat):List Value:=[jV v k 7,jV v k 6,jV v k 5,jV v k 4,jV v k 3,jV v k 2,jV v k 1,jV v k 0]
def KX (v:Int)(i:Nat):UInt8:=UInt8.ofNat (Wh v i).toNat
def Iy (v:Int):List UInt8:=[KX v 7,KX v 6,KX v 5,KX v 4,KX v 3,KX v 2,KX v 1,KX v 0]
theorem Hk (v:Int)(i:Nat):((KX v i).toNat:Int)=Wh v i:=by have h1:0<=Wh v i:=Int.emod_nonneg _ Zb;have h2:Wh v i<256:=Int.emod_lt_of_pos _ Zb;unfold KX;rw[UInt8.toNat_ofNat'];omega
theorem qV (v:Int):Xz v 8=Lib.byteCells (Iy v):=by simp[Xz,jV,Lib.byteCells,Iy,Hk]
theorem dV (v:Int)(w:World):(convert 217 9 (Value.slice (some ⟨w.1.size,0,none⟩) 8 8)).run prog (w.alloc (.cells (Xz v 8).toArray 257))=.ok (.s ⟨(Iy v).toArray⟩) (w.alloc (.cells (Xz v 8).toArray 257)):=by
 refine run_convert_bytes_back (P:=prog) _ 217 9 5 ⟨w.1.size,0,none⟩ 8 (Iy v) underlying217 underlying5 underlying9 ?_;intro i hi;rw[qV];have e:((⟨w.1.size,0,none⟩:Addr).add i)=⟨w.1.size,i,none⟩:=by simp[Addr.add];exact Eq.symm
 rw[e,(Au (w:=w) (c:=(Lib.byteCells (Iy v)).toArray) (t:=257) BF i)];simp[Lib.byteCells,hi]
theorem Xl (v:Int)(w:World)(h0:0<=v)(h1:v<18446744073709551616):Calls prog 197 #[.int .u64 v] w λe w'=>e=.returned (.s ⟨(Iy v).toArray⟩)/\Below w.1.size w w':=by
 have e7:v/72057594037927936%256=v/72057594037927936:=Za;have HB:=Ai h0;clear h0 h1;go_enter func197,ntmps197;go_wp2;go_loopw[5] (λi wr=>∃(k:Nat),k<=8/\i=.i k/\wr=w.alloc (.cells (Xz v k).toArray 257))(λi _=>8-(intOf i).toNat);case atStart=>refine⟨0,Ap _,rfl,?_⟩;rfl
 case round=>
  obtain⟨k,hk,rfl,rfl⟩:=hrel;by_cases hkn:k<8;.rcases(show k=0\/k=1\/k=2\/k=3\/k=4\/k=5\/k=6\/k=7 by omega)with rfl|rfl|rfl|rfl|rfl|rfl|rfl|rfl;all_goals unfold Xz;go_wp2;exact⟨⟨_,Zb,rfl,by simp[jV,Wh,e7]⟩,Zb⟩
  .have hks:k=8:=Za;subst hks;go_wp2;rw[dV];simp only[Result.andThen];rw[Bq];go_wp2;go_ret;exact⟨rfl,Ae _ _⟩
end Go.Proofs.YtllmmkchokkaaaaGreatDoor
set_option maxRecDepth 100000
namespace Go.Proofs.YtllmmkchokkaaaaGreatDoor
open Go.RowKit Go.Proofs.Tryz
theorem fD{a b:ByteArray}(h:a.data.toList=b.data.toList):a=b:=by cases a;cases b;simpa using h
theorem Ii (xs:List ByteArray):(Jk xs).data.toList=Gq xs++[10]:=by simp[Jk]
theorem X5 (s k n d:ByteArray):s++(⟨#[119,97,110,116,32]⟩:ByteArray)++k++(⟨#[32]⟩:ByteArray)++n++(⟨#[32]⟩:ByteArray)++d++(⟨#[10]⟩:ByteArray)=s++Jk [⟨#[119,97,110,116]⟩,k,n,d]:=by apply fD;simp[Ii,Gq,Lib.join]
theorem VE (s o k n v t h:ByteArray):s++(⟨#[119,114,105,116,101,32]⟩:ByteArray)++o++(⟨#[32]⟩:ByteArray)++k++(⟨#[32]⟩:ByteArray)++n++(⟨#[32]⟩:ByteArray)++v++(⟨#[32]⟩:ByteArray)++t++(⟨#[32]⟩:ByteArray)++h++(⟨#[10]⟩:ByteArray)=s++Jk [⟨#[119,114,105,116,101]⟩,o,k,n,v,t,h]:=by apply fD;simp[Ii,Gq,Lib.join]
end Go.Proofs.YtllmmkchokkaaaaGreatDoor
set_option maxRecDepth 100000
namespace Go.Proofs.YtllmmkchokkaaaaGreatDoor
open Go.RowKit Go.Proofs.Tryz
def CF (n:Int):ByteArray:=⟨(Lib.decDigits n.toNat).toArray⟩
def Ix (x:Wt):ByteArray:=Jk [⟨#[119,97,110,116]⟩,x.kind,x.name,CF x.ver]
def IB (x:Wr):ByteArray:=Jk [⟨#[119,114,105,116,101]⟩,CF x.op,x.kind,x.name,CF x.seen,⟨(OC x.text).toArray⟩,x.hold]
def VU (u:Bu):Nat->ByteArray
 |0=>⟨#[]⟩
 |k+1=>VU u k++Ix (u.ws k)
def Yh (u:Bu):Nat->ByteArray
 |0=>VU u u.wn
 |k+1=>Yh u k++IB (u.rs k)
def tS (u:Bu):Nat->Int
 |0=>14695981039346656037
 |k+1=>Hl (tS u k) (Ix (u.ws k)).data.toList
def fF (u:Bu):Nat->Int
 |0=>tS u u.wn
 |k+1=>Hl (fF u k) (IB (u.rs k)).data.toList
theorem pL (u:Bu)(k:Nat):tS u k=Hl 14695981039346656037 (VU u k).data.toList:=by induction k with
 |zero=>rfl
 |succ k ih=>
  have e:(VU u (k+1)).data.toList=(VU u k).data.toList++(Ix (u.ws k)).data.toList:=by simp[VU]
  rw[e,Pw,<-ih];rfl
theorem fC (u:Bu)(k:Nat):fF u k=Hl 14695981039346656037 (Yh u k).data.toList:=by induction k with
 |zero=>exact pL u u.wn
 |succ k ih=>
  have e:(Yh u (k+1)).data.toList=(Yh u k).data.toList++(IB (u.rs k)).data.toList:=by simp[Yh]
  rw[e,Pw,<-ih];rfl
theorem iZ (y:Int):IntKind.u64.wrap y=y%18446744073709551616:=by unfold IntKind.wrap;simp[IntKind.signed,IntKind.bits]
theorem VR (x:Int)(b:UInt8):0<=Xu x b/\Xu x b<18446744073709551616:=by unfold Xu;rw[iZ];exact⟨Int.emod_nonneg _ Zb,Int.emod_lt_of_pos _ Zb⟩
theorem mB (l:List UInt8):∀(x:Int),0<=x->x<18446744073709551616->0<=Hl x l/\Hl x l<18446744073709551616:=by induction l with
 |nil=>exact λx h0 h1=>⟨h0,h1⟩
 |cons b l ih=>exact λx _ _=>ih (Xu x b) (VR x b).1 (VR x b).2
theorem cJ (u:Bu)(k:Nat):0<=fF u k/\fF u k<18446744073709551616:=by rw[fC];exact mB _ _ Zb Zb
def He (u:Bu):ByteArray:=⟨(Iy (fF u u.rn)).toArray⟩
end Go.Proofs.YtllmmkchokkaaaaGreatDoor
namespace Go.Proofs.YtllmmkchokkaaaaGreatDoor
open Go.RowKit Go.Proofs.Tryz
structure Ca where
 client:ByteArray
 num:Int
 bu:Bu
abbrev vC (x:Ca)(a b:OA)(d e:Nat):Array Value:=#[.s x.client,.i x.num,.l a x.bu.wn d,.l b x.bu.rn e]
abbrev qX (x:Ca)(a b:OA)(d e:Nat):List Value:=[.s x.client,.i x.num,.l a x.bu.wn d,.l b x.bu.rn e]
structure Sa where
 code:Int
 ver:Int
 again:Bool
abbrev vS (x:Sa):Array Value:=#[.i x.code,.i x.ver,.bool x.again]
abbrev TP (x:Sa):List Value:=[.i x.code,.i x.ver,.bool x.again]
def WJ (c:Ca):Bool:=Bv c.client&&DU c.num 1 1000000
structure P0 (u:Bu):Prop where
 w:∀i,i<u.wn->(u.ws i).ver<=9223372036854775807
 r:∀i,i<u.rn->(u.rs i).seen<=9223372036854775807
structure EE (c:Ca):Prop where
 n:(c.client.size:Int)<=140737488355328
 u:Ek c.bu
 i:P0 c.bu
def Kc (B:Bk)(cl:ByteArray):Ti:=B.ts (DG B cl)
def RQ (B:Bk)(c:Ca):Ti:=⟨c.client,c.num,He c.bu,BN B c.bu,BW B c.bu⟩
def No (x:Nat->Ti)(k:Nat)(is:Bool)(t:Ti):Nat->Ti:=λi=>if i<k then x i else if i=k then t else x (if is then i else i-1)
def Ol (B:Bk)(c:Ca):Bool:=if Ex B c.client then decide ((Kc B c.client).num<c.num)else decide (B.tn<50)
def E7 (B:Bk)(c:Ca):Bk:={AQ B c.bu with tn:=if Ex B c.client then B.tn else B.tn+1,ts:=No B.ts (DG B c.client) (Ex B c.client) (RQ B c)}
def CY (B:Bk)(c:Ca):Sa:=if WJ c=false then⟨1,0,false⟩else if K2 c.bu=false then⟨2,0,false⟩else if Ol B c=true then⟨BN B c.bu,BW B c.bu,false⟩else if Ex B c.client=false then⟨6,0,false⟩else if c.num<(Kc B c.client).num then⟨8,0,false⟩else if He c.bu=(Kc B c.client).print then⟨(Kc B c.client).code,(Kc B c.client).ver,true⟩else⟨7,0,false⟩
def CM (B:Bk)(c:Ca):Bk:=if WJ c=true/\K2 c.bu=true/\Ol B c=true then E7 B c else B
def Ec (B:Bk)(c:Ca):Sa:=if Bi (Ht B) 7 then CY B c else⟨1,0,false⟩
def BG (B:Bk)(c:Ca):Bk:=if Bi (Ht B) 7 then CM B c else B
theorem XV (B:Bk)(v:Wr):¬Bd B v=2:=by
 unfold Bd CA;repeat' split
 all_goals decide
theorem Xr (B:Bk)(x:Bu):¬BN B x=2:=by
 unfold BN;split;.decide
 .split;.exact XV _ _
  .decide
theorem iG{B:Bk}(hv:Bi (Ht B) 7=true):Ku B.tn B.ts B.now=true:=by rw[Bm]at hv;exact hv 6 Za
theorem Wx{B:Bk}(hv:Bi (Ht B) 7=true):B.tn<=50:=by have h:=iG hv;unfold Ku at h;rw[AG]at h;exact of_decide_eq_true h.1
theorem qL{B:Bk}(hv:Bi (Ht B) 7=true):Qy B:=by
 have h:=iG hv;rw[<-Wz]at h;unfold L5 at h;rw[AG,Bm]at h;have h2:=h.2;have step:∀i,i+1<B.tn->D4 (B.ts i).client (B.ts (i+1)).client=true:=λi hi=>by
  have:=h2 (i+1) hi;unfold M4 at this;simp only[AG,Bool.or_eq_true]at this;rcases this.2 with q|q;.simp at q
  .exact q
 intro i j hij hj;induction j with
 |zero=>omega
 |succ j ih=>
  rcases As i j with q|q;.exact Gy (ih q Za) (step j hj)
  .obtain rfl:i=j:=Za;exact step i hj
theorem cD (B:Bk)(x:Nat->Wr):∀k,(Cd B x k).tn=B.tn/\(Cd B x k).ts=B.ts
 |0=>⟨rfl,rfl⟩
 |k+1=>cD B x k
theorem KW (B:Bk)(x:Bu):(AQ B x).tn=B.tn/\(AQ B x).ts=B.ts:=by
 unfold AQ;split;.exact⟨rfl,rfl⟩
 .exact cD B x.rs x.rn
theorem Kr (B:Bk)(cl:ByteArray):DG B cl<=B.tn:=(I5 _ _ _).1
theorem V9{B:Bk}{cl:ByteArray}(h:Ex B cl=true):DG B cl<B.tn:=by unfold Ex at h;rw[AG]at h;exact of_decide_eq_true h.1
theorem Gu{s:ByteArray}(h:Bv s=true):s.size<=20:=by unfold Bv DU at h;simp only[AG,decide_eq_true_eq]at h;have:=h.1.2;omega
theorem gW (u:Bu):(He u).size=8:=rfl
theorem tQ{B:Bk}{x:Bu}(hf:Cx B)(hv:Bi (Ht B) 7=true)(hb:K2 x=true)(hu:Ek x)(hs:Hn B<=1048576):Cx (AQ B x)/\((AQ B x).on:Int)<=1048576/\((AQ B x).hn:Int)<=1048576/\Cy (Ci 1 (AQ B x).os (AQ B x).on) (AQ B x).hs (AQ B x).hn<=400000000:=by
 obtain⟨l1,l2,l3⟩:=Nw hs;unfold AQ;split;.have m0:=ON 1 B;have m3:C5 (Cy (Ci 1 B.os B.on) B.hs B.hn) B.ts B.tn=Cy (Ci 1 B.os B.on) B.hs B.hn+5*B.tn:=Mt _ _ _;unfold LO at m0;rw[m3]at m0;exact⟨hf,l1,l2,Za⟩
 .rename_i hn;have hall:∀j,j<x.rn->Ko B x j=true:=λj hj=>(OK (Ko B x) x.rn).2.1 j (by have:¬VJ B x<x.rn:=λq=>hn (Ax q);unfold VJ at this;omega);obtain⟨i1,i2,i3,i4,i5,i6⟩:=QU hf hv hu (Gc hb) hs x.rn Bj hall;generalize Cd B x.rs x.rn=y at*;have m1:=QN 1 1048576 y.os y.on i5;have m2:=QS (Ci 1 y.os y.on) 1048576 y.hs y.hn i6;have b1:y.on*(6+1048576)<=100*(6+1048576):=CQ _ i2;have b2:y.hn*(8+1048576)<=200*(8+1048576):=CQ _ i3;exact⟨i1,Za,Za,Za⟩
theorem dN{B:Bk}{c:Ca}(hf:Cx B)(hv:Bi (Ht B) 7=true)(hc:WJ c=true)(hb:K2 c.bu=true)(hu:Ek c.bu)(hs:Hn B<=1048576):M8 (E7 B c):=by
 obtain⟨h1,h2,h3,h4⟩:=tQ hf hv hb hu hs;have ht:=Wx hv;have hk:=Kr B c.client;have hnm:Bv c.client=true:=by unfold WJ at hc;rw[AG]at hc;exact hc.1
 have hsz:=Gu hnm;have htn:(E7 B c).tn<=51:=by show(if Ex B c.client then B.tn else B.tn+1)<=51;split<;>omega
 refine⟨⟨h1.o,h1.h,Za,h1.os,h1.hs,λi hi=>?_⟩,h2,h3,Za,?_⟩
 .show KA (No B.ts (DG B c.client) (Ex B c.client) (RQ B c) i);have hi':i<(if Ex B c.client then B.tn else B.tn+1):=hi;unfold No;split;.exact hf.ts _ Za
  .split;.exact⟨by show(c.client.size:Int)<=_;omega,by show((He c.bu).size:Int)<=_;rw[gW];decide⟩
   .refine hf.ts _ ?_;cases h:Ex B c.client with
    |true=>rw[h]at hi';simpa using hi'
    |false=>rw[h]at hi';simp only[DB,if_false]at hi'⊢;omega
 .have m3:C5 (Cy (Ci 1 (AQ B c.bu).os (AQ B c.bu).on) (AQ B c.bu).hs (AQ B c.bu).hn) (E7 B c).ts (E7 B c).tn=Cy (Ci 1 (AQ B c.bu).os (AQ B c.bu).on) (AQ B c.bu).hs (AQ B c.bu).hn+5*(E7 B c).tn:=Mt _ _ _;have e:LO 1 (E7 B c)=C5 (Cy (Ci 1 (AQ B c.bu).os (AQ B c.bu).on) (AQ B c.bu).hs (AQ B c.bu).hn) (E7 B c).ts (E7 B c).tn:=rfl;rw[e,m3];omega
theorem RP{B:Bk}{c:Ca}(hf:Cx B)(hu:Ek c.bu)(hs:Hn B<=1048576):M8 (BG B c):=by
 obtain⟨l1,l2,l3⟩:=Nw hs;have hB:M8 B:=⟨hf,l1,l2,l3,by have:=ON 1 B;omega⟩;unfold BG;split
 .rename_i hv;unfold CM;split;.rename_i h;exact dN hf hv h.1 h.2.1 hu hs
  .exact hB
 .exact hB
def FT (x:Nat->Ti)(j:Nat):Value:=match j%5 with|0=>.s (x (j/5)).client|1=>.i (x (j/5)).num|2=>.s (x (j/5)).print|3=>.i (x (j/5)).code|_=>.i (x (j/5)).ver
theorem gG (x:Nat->Ti)(i:Nat):FT x (i*5)=.s (x i).client/\FT x (i*5+1)=.i (x i).num/\FT x (i*5+2)=.s (x i).print/\FT x (i*5+3)=.i (x i).code/\FT x (i*5+4)=.i (x i).ver:=by
 have e:∀r,r<5->(i*5+r)%5=r/\(i*5+r)/5=i:=λr hr=>⟨Za,Za⟩;unfold FT;refine⟨?_,?_,?_,?_,?_⟩;.rw[show(i*5)%5=0 by omega,show(i*5)/5=i by omega];rfl
 .rw[(e 1 Za).1,(e 1 Za).2];rfl
 .rw[(e 2 Za).1,(e 2 Za).2];rfl
 .rw[(e 3 Za).1,(e 3 Za).2];rfl
 .rw[(e 4 Za).1,(e 4 Za).2];rfl
theorem GL (x:Nat->Ti)(j:Nat):(FT x j).oneCell'=true:=by unfold FT;split<;>rfl
theorem MA (x:Nat->Ti)(y:Nat->Ti)(k:Nat)(z:Nat->Ti)(hz:∀i,z i=if i<k then x i else y (i-k))(j:Nat):(if j<k*5 then FT x j else FT y (j-k*5))=FT z j:=by
 have h:=hz (j/5);unfold FT;by_cases hj:j<k*5;.rw[if_pos hj,h,if_pos Za]
 .rw[if_neg hj,h,if_neg Za,show(j-k*5)%5=j%5 by omega,show(j-k*5)/5=j/5-k by omega]
end Go.Proofs.YtllmmkchokkaaaaGreatDoor
