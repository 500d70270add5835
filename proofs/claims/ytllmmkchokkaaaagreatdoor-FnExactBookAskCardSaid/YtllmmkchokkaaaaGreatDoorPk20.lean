import Derived.Test.YtllmmkchokkaaaaGreatDoorPk18
import Derived.Test.YtllmmkchokkaaaaGreatDoorPk19
set_option maxRecDepth 100000
set_option maxHeartbeats 4000000
namespace Go.Proofs.YtllmmkchokkaaaaGreatDoor
open Go.RowKit Go.Maps Go.Proofs.Tryz
theorem RL (D K:Nat)(v:Wr)(pl:Int)(w:World)(hD:D<w.1.size)(hd:CK w D K v pl true):Calls prog 97 #[.p D 0] w λe w'=>e=.returned (.tuple #[.agg #[.s ⟨#[]⟩,.s ⟨#[]⟩,.i 0,.i 0,.s ⟨#[]⟩,.bool false,.l none 0 0],.iface 90 (.agg #[.i 3,.i 0])])/\Below w.1.size w w':=by obtain⟨c0,c1,c2,c3,c4,c5,c6,c7,c8⟩:=hd;go_enter func97,ntmps97;go_wp2;refine bodyPost_ret (v:=.tuple #[.agg #[.s ⟨#[]⟩,.s ⟨#[]⟩,.i 0,.i 0,.s ⟨#[]⟩,.bool false,.l none 0 0],.iface 90 (.agg #[.i 3,.i 0])]) (by simp[results,results97,go_sem]) rfl ⟨rfl,Ae _ _⟩
theorem Tn (D K:Nat)(v:Wr)(pl:Int)(ad:OA)(n cap:Nat)(w:World)(hD:D<w.1.size)(hK:K<w.1.size)(hd:CK w D K v pl false)(hk:w.cell? ⟨K,2,none⟩=some (.slice ad n cap))(hn:n=100):Calls prog 97 #[.p D 0] w λe w'=>e=.returned (.tuple #[.agg #[.s ⟨#[]⟩,.s ⟨#[]⟩,.i 0,.i 0,.s ⟨#[]⟩,.bool false,.l none 0 0],.iface 90 (.agg #[.i 7,.i 0])])/\Below w.1.size w w':=by subst hn;obtain⟨c0,c1,c2,c3,c4,c5,c6,c7,c8⟩:=hd;go_enter func97,ntmps97;go_wp2;refine bodyPost_ret (v:=.tuple #[.agg #[.s ⟨#[]⟩,.s ⟨#[]⟩,.i 0,.i 0,.s ⟨#[]⟩,.bool false,.l none 0 0],.iface 90 (.agg #[.i 7,.i 0])]) (by simp[results,results97,go_sem]) rfl ⟨rfl,Ae _ _⟩
theorem Qo{w:World}{g:Nat}{c:Nat->Value}{v0 v1 v2 v3 v4 v5 v6:Value}(h:AH w g 7 c):AH (((((((w.setCell ⟨g,0,none⟩ v0).setCell ⟨g,1,none⟩ v1).setCell ⟨g,2,none⟩ v2).setCell ⟨g,3,none⟩ v3).setCell ⟨g,4,none⟩ v4).setCell ⟨g,5,none⟩ v5).setCell ⟨g,6,none⟩ v6) g 7 (Bg [v0,v1,v2,v3,v4,v5,v6]):=by have H:=((((((h.set (o:=0) Za v0).set (o:=1) Za v1).set (o:=2) Za v2).set (o:=3) Za v3).set (o:=4) Za v4).set (o:=5) Za v5).set (o:=6) Za v6;refine⟨H.lt,H.free,λj hj=>(H.cell j hj).trans ?_⟩;rcases(show j=0\/j=1\/j=2\/j=3\/j=4\/j=5\/j=6 by omega)with rfl|rfl|rfl|rfl|rfl|rfl|rfl<;>rfl
theorem xP{w w':World}{B g:Nat}(h:Below B w w')(hg:B<=g)(v0 v1 v2 v3 v4 v5 v6:Value):Below B w (((((((w'.setCell ⟨g,0,none⟩ v0).setCell ⟨g,1,none⟩ v1).setCell ⟨g,2,none⟩ v2).setCell ⟨g,3,none⟩ v3).setCell ⟨g,4,none⟩ v4).setCell ⟨g,5,none⟩ v5).setCell ⟨g,6,none⟩ v6):=((((((h.setCell hg _).setCell hg _).setCell hg _).setCell hg _).setCell hg _).setCell hg _).setCell hg _
def j9 (D K:Nat)(y:Wr)(_pl:Int)(_fo:Bool)(now:Int)(W:World)(i:Nat)(v:Value)(X:World):Prop:=match i with
 |0=>v=.p D 0
 |1=>v=.p D 0
 |2=>v=.p D 1
 |3=>v=.p D 2
 |4=>v=.s y.kind
 |5=>v=.p D 0
 |6=>v=.p D 0
 |7=>v=.p D 1
 |8=>v=.p D 3
 |9=>v=.s y.name
 |10=>v=.p D 0
 |11=>v=.p D 0
 |12=>v=.p D 0
 |13=>v=.p K 0
 |14=>v=.p K 0
 |15=>v=.p K 0
 |16=>v=.i now
 |17=>v=.i (now+1)
 |18=>v=.p D 0
 |19=>v=.p D 0
 |20=>v=.p D 1
 |21=>v=.p D 5
 |22=>v=.s y.text
 |23=>v=.agg #[.s y.kind,.s y.name,.i 0,.i (now+1),.s y.text,.bool false,.l none 0 0]
 |24=>∃b,v=.p b 0/\W.1.size<=b/\b<X.1.size/\AH X b 7 (Bg [.s ⟨#[]⟩,.s ⟨#[]⟩,.i 0,.i 0,.s ⟨#[]⟩,.bool false,.l none 0 0])
 |_=>True
theorem Ni{P:Prop}(h:P:=by refine Am rfl rfl ?_;clear hKK hg;go_simp;simpa[AF]using h):P:=h
theorem Nd{P:Prop}(h:P:=by have h:=hKK (.p D 0) X rfl BF;exact Ni):P:=h
theorem eU{p1 p2 p3 p5 p6 p7 p8 p9 Eb Es Eh El D8 Ej Ei EN EL EJ Ff Fe Fd Ev EY EP FQ GP GO Gj Gk Gm Ir Iq Hu Hi Hh Hg:Value}{mk:(Nat->Value)->Array Value}(t0:Nat->Value)(D K:Nat)(y:Wr)(pl:Int)(fo:Bool)(now:Int)(W:World)(hD:D<W.1.size)(hK:K<W.1.size)(hd:CK W D K y pl fo)(hn:W.cell? ⟨K,0,none⟩=some (.i now))(h0:0<=now)(h1:now<=1000000)(hmk:mk=λt=>#[.p D 0,p1,p2,p3,t 24,p5,p6,p7,p8,p9,Eb,Es,Eh,El,D8,Ej,Ei,EN,EL,EJ,Ff,Fe,Fd,Ev,t 0,t 1,t 2,t 3,t 4,t 5,t 6,t 7,t 8,t 9,t 10,t 11,t 12,t 13,t 14,t 15,t 16,t 17,t 18,t 19,t 20,t 21,t 22,t 23,EY,EP,FQ,GP,GO,Gj,Gk,Gm,Ir,Iq,Hu,Hi,Hh,Hg])(Q:Exit->Act->World->Prop)(hQ:∀(t:Nat->Value)(_v3:Value) X,(∃b,t 24=.p b 0/\W.1.size<=b/\b<X.1.size/\AH X b 7 (Bg [.s y.kind,.s y.name,.i 0,.i (now+1),.s y.text,.bool false,.l none 0 0])/\Below W.1.size W X)->Q .normal ⟨mk t,[]⟩ X):Code.wp prog (rg Tryz.f97 5) Q ⟨mk t0,[]⟩ W:=by
 refine Mq Zc 25 mk t0 (j9 D K y pl fo now W) (λa X=>∃(t:Nat->Value)(v3:Value),a=⟨mk t,[]⟩/\(∃b,t 24=.p b 0/\W.1.size<=b/\b<X.1.size/\AH X b 7 (Bg [.s y.kind,.s y.name,.i 0,.i (now+1),.s y.text,.bool false,.l none 0 0])/\Below W.1.size W X)) Zc Zc Zc ?_ rfl ?_ ?_ ?_;all_goals subst hmk
 .intro i v X Y hi h hb;rcases(show i=0\/i=1\/i=2\/i=3\/i=4\/i=5\/i=6\/i=7\/i=8\/i=9\/i=10\/i=11\/i=12\/i=13\/i=14\/i=15\/i=16\/i=17\/i=18\/i=19\/i=20\/i=21\/i=22\/i=23\/i=24 by omega)with rfl|rfl|rfl|rfl|rfl|rfl|rfl|rfl|rfl|rfl|rfl|rfl|rfl|rfl|rfl|rfl|rfl|rfl|rfl|rfl|rfl|rfl|rfl|rfl|rfl;.exact h
  .exact h
  .exact h
  .exact h
  .exact h
  .exact h
  .exact h
  .exact h
  .exact h
  .exact h
  .exact h
  .exact h
  .exact h
  .exact h
  .exact h
  .exact h
  .exact h
  .exact h
  .exact h
  .exact h
  .exact h
  .exact h
  .exact h
  .exact h
  .obtain⟨b,e1,e2,e3,e4⟩:=h;exact⟨b,e1,e2,Aa e3 hb.size,e4.below hb e3⟩
 .intro i hi t X KK hb hg hKK;rcases(show i=0\/i=1\/i=2\/i=3\/i=4\/i=5\/i=6\/i=7\/i=8\/i=9\/i=10\/i=11\/i=12\/i=13\/i=14\/i=15\/i=16\/i=17\/i=18\/i=19\/i=20\/i=21\/i=22\/i=23\/i=24 by omega)with rfl|rfl|rfl|rfl|rfl|rfl|rfl|rfl|rfl|rfl|rfl|rfl|rfl|rfl|rfl|rfl|rfl|rfl|rfl|rfl|rfl|rfl|rfl|rfl|rfl;.exact Nd
  .have e0:t 0=_:=hg 0 (AX rfl);have h:=hKK (.p D 0) X rfl BF;refine Am rfl rfl ?_;clear hKK hg;go_simp;simpa[AF,e0]using h
  .have e1:t 1=_:=hg 1 (AX rfl);have h:=hKK (.p D 1) X rfl BF;refine Am rfl rfl ?_;clear hKK hg;go_simp;simpa[AF,e1]using h
  .have e2:t 2=_:=hg 2 (AX rfl);have h:=hKK (.p D 2) X rfl BF;refine Am rfl rfl ?_;clear hKK hg;go_simp;simpa[AF,e2]using h
  .have e3:t 3=_:=hg 3 (AX rfl);have l0:=(hb.cell (p:=⟨D,2,none⟩) hD).trans hd.c2;have zl:=Aa hD hb.size;have h:=hKK (.s y.kind) X rfl BF;refine Am rfl rfl ?_;clear hKK hg;go_simp;simpa[AF,e3]using h
  .exact Nd
  .have e5:t 5=_:=hg 5 (AX rfl);have h:=hKK (.p D 0) X rfl BF;refine Am rfl rfl ?_;clear hKK hg;go_simp;simpa[AF,e5]using h
  .have e6:t 6=_:=hg 6 (AX rfl);have h:=hKK (.p D 1) X rfl BF;refine Am rfl rfl ?_;clear hKK hg;go_simp;simpa[AF,e6]using h
  .have e7:t 7=_:=hg 7 (AX rfl);have h:=hKK (.p D 3) X rfl BF;refine Am rfl rfl ?_;clear hKK hg;go_simp;simpa[AF,e7]using h
  .have e8:t 8=_:=hg 8 (AX rfl);have l0:=(hb.cell (p:=⟨D,3,none⟩) hD).trans hd.c3;have zl:=Aa hD hb.size;have h:=hKK (.s y.name) X rfl BF;refine Am rfl rfl ?_;clear hKK hg;go_simp;simpa[AF,e8]using h
  .exact Nd
  .have e10:t 10=_:=hg 10 (AX rfl);have h:=hKK (.p D 0) X rfl BF;refine Am rfl rfl ?_;clear hKK hg;go_simp;simpa[AF,e10]using h
  .have e11:t 11=_:=hg 11 (AX rfl);have h:=hKK (.p D 0) X rfl BF;refine Am rfl rfl ?_;clear hKK hg;go_simp;simpa[AF,e11]using h
  .have e12:t 12=_:=hg 12 (AX rfl);have l0:=(hb.cell (p:=⟨D,0,none⟩) hD).trans hd.c0;have zl:=Aa hD hb.size;have h:=hKK (.p K 0) X rfl BF;refine Am rfl rfl ?_;clear hKK hg;go_simp;simpa[AF,e12]using h
  .have e13:t 13=_:=hg 13 (AX rfl);have h:=hKK (.p K 0) X rfl BF;refine Am rfl rfl ?_;clear hKK hg;go_simp;simpa[AF,e13]using h
  .have e14:t 14=_:=hg 14 (AX rfl);have h:=hKK (.p K 0) X rfl BF;refine Am rfl rfl ?_;clear hKK hg;go_simp;simpa[AF,e14]using h
  .have e15:t 15=_:=hg 15 (AX rfl);have l0:=(hb.cell (p:=⟨K,0,none⟩) hK).trans hn;have zl:=Aa hK hb.size;have h:=hKK (.i now) X rfl BF;refine Am rfl rfl ?_;clear hKK hg;go_simp;simpa[AF,e15]using h
  .have e16:t 16=_:=hg 16 (AX rfl);have hw:IntKind.i64.wrap (now+1)=now+1:=BV _ ⟨Za,Za⟩;have h:=hKK (.i (now+1)) X rfl BF;refine Am rfl rfl ?_;clear hKK hg;go_simp;simpa[AF,e16,hw]using h
  .exact Nd
  .have e18:t 18=_:=hg 18 (AX rfl);have h:=hKK (.p D 0) X rfl BF;refine Am rfl rfl ?_;clear hKK hg;go_simp;simpa[AF,e18]using h
  .have e19:t 19=_:=hg 19 (AX rfl);have h:=hKK (.p D 1) X rfl BF;refine Am rfl rfl ?_;clear hKK hg;go_simp;simpa[AF,e19]using h
  .have e20:t 20=_:=hg 20 (AX rfl);have h:=hKK (.p D 5) X rfl BF;refine Am rfl rfl ?_;clear hKK hg;go_simp;simpa[AF,e20]using h
  .have e21:t 21=_:=hg 21 (AX rfl);have l0:=(hb.cell (p:=⟨D,5,none⟩) hD).trans hd.c5;have zl:=Aa hD hb.size;have h:=hKK (.s y.text) X rfl BF;refine Am rfl rfl ?_;clear hKK hg;go_simp;simpa[AF,e21]using h
  .have e4:t 4=_:=hg 4 (AX rfl);have e9:t 9=_:=hg 9 (AX rfl);have e17:t 17=_:=hg 17 (AX rfl);have e22:t 22=_:=hg 22 (AX rfl);have h:=hKK (.agg #[.s y.kind,.s y.name,.i 0,.i (now+1),.s y.text,.bool false,.l none 0 0]) X rfl BF;refine Am rfl rfl ?_;clear hKK hg;go_simp;simpa[AF,e4,e9,e17,e22]using h
  .have h:=hKK (.p (X.1.size) 0) (X.alloc (.cells #[.s ⟨#[]⟩,.s ⟨#[]⟩,.i 0,.i 0,.s ⟨#[]⟩,.bool false,.l none 0 0] 118)) ⟨X.1.size,rfl,hb.size,Ze,AS (w:=X) (l:=[.s ⟨#[]⟩,.s ⟨#[]⟩,.i 0,.i 0,.s ⟨#[]⟩,.bool false,.l none 0 0]) (t:=118) BF⟩ FU;exact Ni
 .intro t X KK hb hg hKK;have e23:t 23=_:=hg 23 Za;have hw:=hb.size;obtain⟨b,e24,z1,z2,hr⟩:∃b,t 24=.p b 0/\W.1.size<=b/\b<X.1.size/\AH X b 7 (Bg [.s ⟨#[]⟩,.s ⟨#[]⟩,.i 0,.i 0,.s ⟨#[]⟩,.bool false,.l none 0 0]):=hg 24 Za;have q0:=hr.cell 0 Zb;have q1:=hr.cell 1 Zb;have q2:=hr.cell 2 Zb;have q3:=hr.cell 3 Zb;have q4:=hr.cell 4 Zb;have q5:=hr.cell 5 Zb;have q6:=hr.cell 6 Zb;have qf:=hr.free;simp only[Bg,Af,Ag]at q0 q1 q2 q3 q4 q5 q6;have h:=hKK _ _ ⟨t,.tuple #[],rfl,b,e24,z1,(by simpa using z2),Qo (v0:=.s y.kind) (v1:=.s y.name) (v2:=.i 0) (v3:=.i (now+1)) (v4:=.s y.text) (v5:=.bool false) (v6:=.l none 0 0) hr,xP hb z1 _ _ _ _ _ _ _⟩;refine Am rfl rfl ?_;clear hKK hg hr;dsimp only at h;rw[e24]at h;go_simp;simpa[AF,e23,e24]using h
 .rintro a X ⟨t,v3,rfl,hp⟩;exact hQ t v3 X hp
theorem Cz{U:World}{c:Array Value}{t:TypeId}{k j:Nat}(h:k=U.1.size):(U.alloc (.cells c t)).cell? ⟨k,j,none⟩=c[j]?:=by subst h;exact At _ _ _ _
theorem KD{U:World}{c:Array Value}{t:TypeId}{k j:Nat}(h:k=U.1.size):(U.alloc (.cells c t)).frozen? ⟨k,j,none⟩=false:=by subst h;simp
theorem DK{w:World}{base e z n:Nat}{v:Value}{xs:List Value}(h:w.ownsRow base e z v n xs):∃ad cap,v=.l ad n cap:=by
 rcases h.2 with⟨h1,h2⟩|⟨g,cap,cur,e1,e2,e3,e4⟩;.subst h2;exact⟨none,0,h1⟩
 .exact⟨_,_,e1⟩
theorem Vz (D K:Nat)(v:Wr)(pl:Int)(ad:OA)(n cap:Nat)(now:Int)(w:World)(hD:D<w.1.size)(hK:K<w.1.size)(hd:CK w D K v pl false)(hk:w.cell? ⟨K,2,none⟩=some (.slice ad n cap))(hn:¬n=100)(hnow:w.cell? ⟨K,0,none⟩=some (.i now))(h0:0<=now)(h1:now<=1000000)(hh:v.hold=⟨#[]⟩):Calls prog 97 #[.p D 0] w λe w'=>e=.returned (.tuple #[.agg #[.s v.kind,.s v.name,.i 0,.i (now+1),.s v.text,.bool false,.l none 0 0],.nilIface])/\Below w.1.size w w':=by
 have hB:=Ae w (.cells #[.s ⟨#[]⟩,.s ⟨#[]⟩,.i 0,.i 0,.s ⟨#[]⟩,.bool false,.l none 0 0] 118);have HD:=Ai (hd.grow hB hD);have ai:=Ai hd;have HN:=Ai ((hB.cell (p:=⟨K,0,none⟩) hK).trans hnow);have HB:=Ai hB;have hn1:((n:Int)==100)=false:=Zd;obtain⟨c0,c1,c2,c3,c4,c5,c6,c7,c8⟩:=hd;clear hB hnow hn c1 c2 c3 c4 c5 c6 c7;go_enter func97,ntmps97;go_wp2_with fail;refine eU (λ_=>undef) D K v pl false now _ Zd Zd (by exact HD) (by exact HN) h0 h1 rfl _ ?_;rintro t v3 X ⟨b,e24,z1,z2,hr,hbX⟩;rw[e24];have z0:w.1.size<b:=by simp at z1;omega
 have BX1:=Ai (HB.trans (hbX.mono Ze));obtain⟨c0',c1',c2',c3',c4',c5',c6,c7',c8'⟩:=HD.grow hbX Zd;have hDX:D<X.1.size:=Za;have hRX:w.1.size<X.1.size:=Za;have rz:=AS (w:=w) (l:=[.s ⟨#[]⟩,.s ⟨#[]⟩,.i 0,.i 0,.s ⟨#[]⟩,.bool false,.l none 0 0]) (t:=118) hbX;have p0:=rz.cell 0 Zb;have p1:=rz.cell 1 Zb;have p2:=rz.cell 2 Zb;have p3:=rz.cell 3 Zb;have p4:=rz.cell 4 Zb;have p5:=rz.cell 5 Zb;have p6:=rz.cell 6 Zb;have q0:=hr.cell 0 Zb;have q1:=hr.cell 1 Zb;have q2:=hr.cell 2 Zb;have q3:=hr.cell 3 Zb;have q4:=hr.cell 4 Zb;have q5:=hr.cell 5 Zb;have q6:=hr.cell 6 Zb;have pf:=rz.free;have qf:=hr.free;simp only[Bg,Af,Ag]at p0 p1 p2 p3 p4 p5 p6;simp only[Bg,Af,Ag]at q0 q1 q2 q3 q4 q5 q6;clear hr rz hbX e24 HD HN HB c0' c1' c2' c3' c4' c5' c7' c8' c0 c8 hk z1;rw[hh]at c6;go_wp2;refine bodyPost_ret (v:=.tuple #[.agg #[.s v.kind,.s v.name,.i 0,.i (now+1),.s v.text,.bool false,.l none 0 0],.nilIface]) (by simp[results,results97,go_sem,p0,p1,p2,p3,p4,p5,p6]) rfl ?_;exact⟨rfl,by repeat(first|with_reducible exact BX1.out|with_reducible refine AJ ?_ Zo _|with_reducible refine Ba ?_ Zo _|with_reducible refine Bb ?_)⟩
theorem VM (D K:Nat)(v:Wr)(pl:Int)(ad:OA)(n cap:Nat)(now:Int)(w:World)(hD:D<w.1.size)(hK:K<w.1.size)(hd:CK w D K v pl false)(hk:w.cell? ⟨K,2,none⟩=some (.slice ad n cap))(hn:¬n=100)(hnow:w.cell? ⟨K,0,none⟩=some (.i now))(h0:0<=now)(h1:now<=1000000)(hh:¬v.hold=⟨#[]⟩):Calls prog 97 #[.p D 0] w λe w'=>∃b,e=.returned (.tuple #[.agg #[.s v.kind,.s v.name,.i 0,.i (now+1),.s v.text,.bool false,.l (some ⟨b,0,none⟩) 1 1],.nilIface])/\w.1.size<=b/\b<w'.1.size/\w'.cell? ⟨b,0,none⟩=some (.s v.hold)/\w'.frozen? ⟨b,0,none⟩=false/\Below w.1.size w w':=by
 have hB:=Ae w (.cells #[.s ⟨#[]⟩,.s ⟨#[]⟩,.i 0,.i 0,.s ⟨#[]⟩,.bool false,.l none 0 0] 118);have HD:=Ai (hd.grow hB hD);have ai:=Ai hd;have HN:=Ai ((hB.cell (p:=⟨K,0,none⟩) hK).trans hnow);have HB:=Ai hB;have hn1:((n:Int)==100)=false:=Zd;obtain⟨c0,c1,c2,c3,c4,c5,c6,c7,c8⟩:=hd;clear hB hnow hn c1 c2 c3 c4 c5 c6 c7;go_enter func97,ntmps97;go_wp2_with fail;refine eU (λ_=>undef) D K v pl false now _ Zd Zd (by exact HD) (by exact HN) h0 h1 rfl _ ?_;rintro t v3 X ⟨b,e24,z1,z2,hr,hbX⟩;rw[e24];have z0:w.1.size<b:=by simp at z1;omega
 have BX1:=Ai (HB.trans (hbX.mono Ze));obtain⟨c0',c1',c2',c3',c4',c5',c6,c7',c8'⟩:=HD.grow hbX Zd;have hDX:D<X.1.size:=Za;have hRX:w.1.size<X.1.size:=Za;have rz:=AS (w:=w) (l:=[.s ⟨#[]⟩,.s ⟨#[]⟩,.i 0,.i 0,.s ⟨#[]⟩,.bool false,.l none 0 0]) (t:=118) hbX;have p0:=rz.cell 0 Zb;have p1:=rz.cell 1 Zb;have p2:=rz.cell 2 Zb;have p3:=rz.cell 3 Zb;have p4:=rz.cell 4 Zb;have p5:=rz.cell 5 Zb;have p6:=rz.cell 6 Zb;have q0:=hr.cell 0 Zb;have q1:=hr.cell 1 Zb;have q2:=hr.cell 2 Zb;have q3:=hr.cell 3 Zb;have q4:=hr.cell 4 Zb;have q5:=hr.cell 5 Zb;have q6:=hr.cell 6 Zb;have pf:=rz.free;have qf:=hr.free;simp only[Bg,Af,Ag]at p0 p1 p2 p3 p4 p5 p6;simp only[Bg,Af,Ag]at q0 q1 q2 q3 q4 q5 q6;clear hr rz hbX e24 HD HN HB c0' c1' c2' c3' c4' c5' c7' c8' c0 c8 hk z1;have hhe:v.hold.toList.isEmpty=false:=by simpa using BR hh
 clear hh;go_wp2;refine bodyPost_ret (v:=.tuple #[.agg #[.s v.kind,.s v.name,.i 0,.i (now+1),.s v.text,.bool false,.l (some ⟨X.1.size,0,none⟩) 1 1],.nilIface]) (by simp[results,results97,go_sem,p0,p1,p2,p3,p4,p5,p6,hRX]) rfl ?_;refine⟨X.1.size,rfl,Za,Ze,?_,?_,by repeat(first|with_reducible exact BX1.out|with_reducible refine AJ ?_ Zo _|with_reducible refine Ba ?_ Zo _|with_reducible refine Bb ?_)⟩;.exact Cz Ze
 .exact KD Ze
theorem XG (n:Nat)(s:Nat->ByteArray)(ad:OA)(cap:Nat)(a:ByteArray)(w:World)(lo hi:Nat)(hl:(n:Int)<=1099511627776)(hc:AB w lo hi ad n s)(hs:EX n s):Calls prog 155 #[.l ad n cap,.s a] w λe w'=>e=.returned (.tuple #[.i (DY s a n:Nat),.bool (D2 n s a)])/\w'=w:=by refine(U3 n s ad cap a w lo hi hl hc (λi j h1 h2 h3=>Gy (hs i j h1 h2) h3)).mono ?_;rintro e w' ⟨i,h1,h2,h3,rfl,rfl⟩;have e1:DY s a n=i:=PW h1 h2 (λh=>h3 i Bj h);refine⟨?_,rfl⟩;rw[UW hs,e1]
def mP (D _K R:Nat)(y:Wr)(_pl:Int)(_fo:Bool)(x:Ob)(A:OA)(C:Nat)(_W:World)(i:Nat)(v:Value)(_X:World):Prop:=match i with
 |0=>v=.p R 6
 |1=>v=.l A x.hn C
 |2=>v=.p D 0
 |3=>v=.p D 0
 |4=>v=.p D 1
 |5=>v=.p D 6
 |6=>v=.s y.hold
 |7=>v=.tuple #[.i (DY x.hs y.hold x.hn:Nat),.bool (D2 x.hn x.hs y.hold)]
 |8=>v=.tuple #[.i (DY x.hs y.hold x.hn:Nat),.bool (D2 x.hn x.hs y.hold)]
 |9=>v=.i (DY x.hs y.hold x.hn:Nat)
 |10=>v=.bool (D2 x.hn x.hs y.hold)
 |11=>v=.i (DY x.hs y.hold x.hn:Nat)
 |12=>v=.bool (D2 x.hn x.hs y.hold)
 |_=>True
theorem gI{P:Prop}(h:P:=by have zl:=Aa hR hb.size;have h:=hKK (.l A x.hn C) X rfl BF;refine Am rfl rfl ?_;clear hKK hg;go_simp;simpa[AF,e0]using h):P:=h
theorem iS{P:Prop}(h:P:=by
  intro i hi t X KK hb hg hKK;rcases(show i=0\/i=1\/i=2\/i=3\/i=4\/i=5\/i=6\/i=7\/i=8\/i=9\/i=10\/i=11\/i=12 by omega)with rfl|rfl|rfl|rfl|rfl|rfl|rfl|rfl|rfl|rfl|rfl|rfl|rfl;.have h:=hKK (.p R 6) X rfl BF;exact Ni
  .have e0:t 0=_:=hg 0 (AX rfl);have l0:=(hb.cell (p:=⟨R,6,none⟩) hR).trans hx;exact gI
  .exact Nd
  .have e2:t 2=_:=hg 2 (AX rfl);have h:=hKK (.p D 0) X rfl BF;refine Am rfl rfl ?_;clear hKK hg;go_simp;simpa[AF,e2]using h
  .have e3:t 3=_:=hg 3 (AX rfl);have h:=hKK (.p D 1) X rfl BF;refine Am rfl rfl ?_;clear hKK hg;go_simp;simpa[AF,e3]using h
  .have e4:t 4=_:=hg 4 (AX rfl);have h:=hKK (.p D 6) X rfl BF;refine Am rfl rfl ?_;clear hKK hg;go_simp;simpa[AF,e4]using h
  .have e5:t 5=_:=hg 5 (AX rfl);have l0:=(hb.cell (p:=⟨D,6,none⟩) hD).trans hd.c6;have zl:=Aa hD hb.size;have h:=hKK (.s y.hold) X rfl BF;refine Am rfl rfl ?_;clear hKK hg;go_simp;simpa[AF,e5]using h
  .have e1:t 1=_:=hg 1 (AX rfl);have e6:t 6=_:=hg 6 (AX rfl);refine Am rfl rfl ?_;have HK:=Ai hKK;clear hKK hg;go_simp;go_at_call 155;refine(XG x.hn x.hs A C y.hold X 0 W.1.size hl (hc.below hb Bj) hs).mono ?_;rintro r Y ⟨rfl,rfl⟩;have h:=HK _ Y rfl BF;simpa[AF,e1,e6]using h
  .have e7:t 7=_:=hg 7 (AX rfl);have h:=hKK (.tuple #[.i (DY x.hs y.hold x.hn:Nat),.bool (D2 x.hn x.hs y.hold)]) X rfl BF;refine Am rfl rfl ?_;clear hKK hg;go_simp;simpa[AF,e7]using h
  .have e8:t 8=_:=hg 8 (AX rfl);have h:=hKK (.i (DY x.hs y.hold x.hn:Nat)) X rfl BF;refine Am rfl rfl ?_;clear hKK hg;go_simp;simpa[AF,e8]using h
  .have e8:t 8=_:=hg 8 (AX rfl);have h:=hKK (.bool (D2 x.hn x.hs y.hold)) X rfl BF;refine Am rfl rfl ?_;clear hKK hg;go_simp;simpa[AF,e8]using h
  .have e9:t 9=_:=hg 9 (AX rfl);have h:=hKK (.i (DY x.hs y.hold x.hn:Nat)) X rfl BF;refine Am rfl rfl ?_;clear hKK hg;go_simp;simpa[AF,e9]using h
  .have e10:t 10=_:=hg 10 (AX rfl);have h:=hKK (.bool (D2 x.hn x.hs y.hold)) X rfl BF;refine Am rfl rfl ?_;clear hKK hg;go_simp;simpa[AF,e10]using h):P:=h
theorem gR{P:Prop}(h:P:=by intro t X hb hG;have f11:t 11=.i (DY x.hs y.hold x.hn:Nat):=hG 11 Za;have f12:t 12=.bool (D2 x.hn x.hs y.hold):=hG 12 Za;dsimp only;rw[f11,f12];exact hQ t X hb):P:=h
theorem UX{p1 p2 p3 p5 p8 p9 Eb Es Eh El D8 Ej Ei Ez EV Fa Fb E8 Fc FM FD Fo Fz Fp Ft FC Fw Fy Fs Fu Fx Fq FE EY EP:Value}{mk:(Nat->Value)->Array Value}(t0:Nat->Value)(D K R:Nat)(y:Wr)(pl:Int)(fo:Bool)(x:Ob)(A:OA)(C:Nat)(W:World)(hD:D<W.1.size)(hR:R<W.1.size)(hd:CK W D K y pl fo)(hx:W.cell? ⟨R,6,none⟩=some (.slice A x.hn C))(hl:(x.hn:Int)<=1099511627776)(hc:AB W 0 W.1.size A x.hn x.hs)(hs:EX x.hn x.hs)(hmk:mk=λt=>#[.p D 0,p1,p2,p3,.p R 0,p5,t 11,t 12,p8,p9,Eb,Es,Eh,El,D8,Ej,Ei,t 8,t 0,t 1,t 2,t 3,t 4,t 5,t 6,t 7,t 9,t 10,Ez,EV,Fa,Fb,E8,Fc,FM,FD,Fo,Fz,Fp,Ft,FC,Fw,Fy,Fs,Fu,Fx,Fq,FE,EY,EP])(Q:Exit->Act->World->Prop)(hQ:∀(t:Nat->Value) X,Below W.1.size W X->Q .normal ⟨#[.p D 0,p1,p2,p3,.p R 0,p5,.i (DY x.hs y.hold x.hn:Nat),.bool (D2 x.hn x.hs y.hold),p8,p9,Eb,Es,Eh,El,D8,Ej,Ei,t 8,t 0,t 1,t 2,t 3,t 4,t 5,t 6,t 7,t 9,t 10,Ez,EV,Fa,Fb,E8,Fc,FM,FD,Fo,Fz,Fp,Ft,FC,Fw,Fy,Fs,Fu,Fx,Fq,FE,EY,EP],[]⟩ X):Code.wp prog (rg Tryz.f100 4) Q ⟨mk t0,[]⟩ W:=by
 refine OH Zc 13 mk t0 (mP D K R y pl fo x A C W) Zc Zc ?_ rfl ?_ ?_;all_goals subst hmk
 .exact λ_ _ _ _ _ h _=>h
 .exact iS
 .exact gR
def lF (D _K R:Nat)(y:Wr)(_pl:Int)(_fo:Bool)(x:Ob)(A:OA)(C:Nat)(_W:World)(i:Nat)(v:Value)(_X:World):Prop:=match i with
 |0=>v=.p R 6
 |1=>v=.l A x.hn C
 |2=>v=.p D 0
 |3=>v=.p D 0
 |4=>v=.p D 1
 |5=>v=.p D 6
 |6=>v=.s y.hold
 |7=>v=.tuple #[.i (DY x.hs y.hold x.hn:Nat),.bool (D2 x.hn x.hs y.hold)]
 |8=>v=.tuple #[.i (DY x.hs y.hold x.hn:Nat),.bool (D2 x.hn x.hs y.hold)]
 |9=>v=.i (DY x.hs y.hold x.hn:Nat)
 |10=>v=.bool (D2 x.hn x.hs y.hold)
 |11=>v=.i (DY x.hs y.hold x.hn:Nat)
 |12=>v=.bool (D2 x.hn x.hs y.hold)
 |_=>True
theorem Z6{p1 p2 p3 p5 p8 p9 Eb Es Eh El D8 Ej Ei Ez EV Fa Fb E8 Fc FM FD Fo Fz Fp:Value}{mk:(Nat->Value)->Array Value}(t0:Nat->Value)(D K R:Nat)(y:Wr)(pl:Int)(fo:Bool)(x:Ob)(A:OA)(C:Nat)(W:World)(hD:D<W.1.size)(hR:R<W.1.size)(hd:CK W D K y pl fo)(hx:W.cell? ⟨R,6,none⟩=some (.slice A x.hn C))(hl:(x.hn:Int)<=1099511627776)(hc:AB W 0 W.1.size A x.hn x.hs)(hs:EX x.hn x.hs)(hmk:mk=λt=>#[.p D 0,p1,p2,p3,.p R 0,p5,t 11,t 12,p8,p9,Eb,Es,Eh,El,D8,Ej,Ei,t 8,t 0,t 1,t 2,t 3,t 4,t 5,t 6,t 7,t 9,t 10,Ez,EV,Fa,Fb,E8,Fc,FM,FD,Fo,Fz,Fp])(Q:Exit->Act->World->Prop)(hQ:∀(t:Nat->Value) X,Below W.1.size W X->Q .normal ⟨#[.p D 0,p1,p2,p3,.p R 0,p5,.i (DY x.hs y.hold x.hn:Nat),.bool (D2 x.hn x.hs y.hold),p8,p9,Eb,Es,Eh,El,D8,Ej,Ei,t 8,t 0,t 1,t 2,t 3,t 4,t 5,t 6,t 7,t 9,t 10,Ez,EV,Fa,Fb,E8,Fc,FM,FD,Fo,Fz,Fp],[]⟩ X):Code.wp prog (rg Tryz.f101 4) Q ⟨mk t0,[]⟩ W:=by
 refine OH Zc 13 mk t0 (lF D K R y pl fo x A C W) Zc Zc ?_ rfl ?_ ?_;all_goals subst hmk
 .exact λ_ _ _ _ _ h _=>h
 .exact iS
 .exact gR
theorem qC (v0 v1 v2 v3 v4 v5 v6 v:Value):∀j,j<7->Bg [v0,v1,v2,v3,v4,v5,v] j=D9 (Bg [v0,v1,v2,v3,v4,v5,v6]) 6 v j:=λj hj=>by rcases(show j=0\/j=1\/j=2\/j=3\/j=4\/j=5\/j=6 by omega)with rfl|rfl|rfl|rfl|rfl|rfl|rfl<;>rfl
def m7 (D _K R:Nat)(y:Wr)(_pl:Int)(_fo:Bool)(x:Ob)(A:OA)(_b _off C k:Nat)(W:World)(i:Nat)(v:Value)(X:World):Prop:=match i with
 |0=>v=.p R 6
 |1=>v=.l A x.hn C
 |2=>v=.i (k:Nat)
 |3=>v=.p D 0
 |4=>v=.p D 0
 |5=>v=.p D 1
 |6=>v=.p D 6
 |7=>v=.s y.hold
 |8=>X.ownsRow W.1.size 9 1 v (x.hn+1) ((Bh x.hn x.hs).take (k*1)++[.s y.hold]++(Bh x.hn x.hs).drop (k*1))
 |9=>v=.p R 6
 |_=>True
theorem rM{p1 p2 p3 p5 p7 p8 p9 Eb Es Eh El D8 Ej Ei EN EL EJ Ff Fe Fd Ev EK FA EU E9 Ez EV Fa Fb E8 Fc FM FD Fo Fz Fp EP:Value}{mk:(Nat->Value)->Array Value}(t0:Nat->Value)(D K R:Nat)(y:Wr)(pl:Int)(fo:Bool)(x:Ob)(A:OA)(b off C k:Nat)(W:World)(hD:D<W.1.size)(hR:R<W.1.size)(hd:CK W D K y pl fo)(hx:AH W R 7 (Bg [.s x.kind,.s x.name,.i x.ver,.i x.born,.s x.text,.bool x.ending,.l A x.hn C]))(hl:(x.hn:Int)<=1099511627775)(hk:k<=x.hn)(hc:DT W 1 A b off x.hn C (Bh x.hn x.hs))(hmk:mk=λt=>#[.p D 0,p1,p2,p3,.p R 0,p5,.i (k:Nat),p7,p8,p9,Eb,Es,Eh,El,D8,Ej,Ei,EN,EL,EJ,Ff,Fe,Fd,Ev,EK,FA,EU,E9,Ez,EV,Fa,Fb,E8,Fc,FM,FD,Fo,Fz,Fp,t 0,t 1,t 2,t 3,t 4,t 5,t 6,t 7,t 8,t 9,EP])(Q:Exit->Act->World->Prop)(hQ:∀(t:Nat->Value)(_v3:Value) X,(∃v4,X.ownsRow W.1.size 9 1 v4 (x.hn+1) ((Bh x.hn x.hs).take (k*1)++[.s y.hold]++(Bh x.hn x.hs).drop (k*1))/\AH X R 7 (Bg [.s x.kind,.s x.name,.i x.ver,.i x.born,.s x.text,.bool x.ending,v4])/\AP (λq=>q=R) W X)->Q .normal ⟨mk t,[]⟩ X):Code.wp prog (rg Tryz.f100 9) Q ⟨mk t0,[]⟩ W:=by
 refine Mq Zc 10 mk t0 (m7 D K R y pl fo x A b off C k W) (λa X=>∃(t:Nat->Value)(v3:Value),a=⟨mk t,[]⟩/\(∃v4,X.ownsRow W.1.size 9 1 v4 (x.hn+1) ((Bh x.hn x.hs).take (k*1)++[.s y.hold]++(Bh x.hn x.hs).drop (k*1))/\AH X R 7 (Bg [.s x.kind,.s x.name,.i x.ver,.i x.born,.s x.text,.bool x.ending,v4])/\AP (λq=>q=R) W X)) Zc Zc Zc ?_ rfl ?_ ?_ ?_;all_goals subst hmk
 .intro i v X Y hi h hb;rcases(show i=0\/i=1\/i=2\/i=3\/i=4\/i=5\/i=6\/i=7\/i=8\/i=9 by omega)with rfl|rfl|rfl|rfl|rfl|rfl|rfl|rfl|rfl|rfl;.exact h
  .exact h
  .exact h
  .exact h
  .exact h
  .exact h
  .exact h
  .exact h
  .exact DA h hb
  .exact h
 .intro i hi t X KK hb hg hKK;rcases(show i=0\/i=1\/i=2\/i=3\/i=4\/i=5\/i=6\/i=7\/i=8\/i=9 by omega)with rfl|rfl|rfl|rfl|rfl|rfl|rfl|rfl|rfl|rfl;.have h:=hKK (.p R 6) X rfl BF;exact Ni
  .have e0:t 0=_:=hg 0 (AX rfl);have l0:=(hb.cell (p:=⟨R,6,none⟩) hR).trans (show W.cell? ⟨R,6,none⟩=some (.slice A x.hn C)from hx.cell 6 Zb);exact gI
  .have h:=hKK (.i (k:Nat)) X rfl BF;exact Ni
  .exact Nd
  .have e3:t 3=_:=hg 3 (AX rfl);have h:=hKK (.p D 0) X rfl BF;refine Am rfl rfl ?_;clear hKK hg;go_simp;simpa[AF,e3]using h
  .have e4:t 4=_:=hg 4 (AX rfl);have h:=hKK (.p D 1) X rfl BF;refine Am rfl rfl ?_;clear hKK hg;go_simp;simpa[AF,e4]using h
  .have e5:t 5=_:=hg 5 (AX rfl);have h:=hKK (.p D 6) X rfl BF;refine Am rfl rfl ?_;clear hKK hg;go_simp;simpa[AF,e5]using h
  .have e6:t 6=_:=hg 6 (AX rfl);have l0:=(hb.cell (p:=⟨D,6,none⟩) hD).trans hd.c6;have zl:=Aa hD hb.size;have h:=hKK (.s y.hold) X rfl BF;refine Am rfl rfl ?_;clear hKK hg;go_simp;simpa[AF,e6]using h
  .have e1:t 1=_:=hg 1 (AX rfl);have e2:t 2=_:=hg 2 (AX rfl);have e7:t 7=_:=hg 7 (AX rfl);refine Am rfl rfl ?_;have HK:=Ai hKK;have Da:=Ai (hc.grow hb);clear hKK hg;go_simp;go_at_call 156;refine(iQ A b off x.hn C k (Bh x.hn x.hs) y.hold X Da hk hl).mono ?_;rintro r Y ⟨v,rfl,hown,hbY⟩;have h:=HK v Y (CD hown hb.size) hbY;simpa[AF,e1,e2,e7]using h
  .have h:=hKK (.p R 6) X rfl BF;exact Ni
 .intro t X KK hb hg hKK;have e9:t 9=_:=hg 9 Za;have hown:X.ownsRow W.1.size 9 1 (t 8) (x.hn+1) ((Bh x.hn x.hs).take (k*1)++[.s y.hold]++(Bh x.hn x.hs).drop (k*1)):=hg 8 Za;obtain⟨a8,k8,e8⟩:=DK hown;rw[e8]at hown;have hr:=hx.below hb hR;have l6:=hr.cell 6 Zb;have lf:=hr.free;simp only[Bg,Af,Ag]at l6;have zl:R<X.1.size:=Aa hR hb.size;have h:=hKK _ (X.setCell ⟨R,6,none⟩ (.l a8 (x.hn+1) k8)) ⟨t,.tuple #[],rfl,.l a8 (x.hn+1) k8,CB hown (AP.setCell (P:=λq=>q=R) (AP.refl _ _) rfl _) (λg hg' e=>by have:=(hown.lt g hg').1;omega),hr.vset Za (qC _ _ _ _ _ _ _ _),(Aq hb).trans (AP.setCell (P:=λq=>q=R) (AP.refl _ _) rfl _)⟩;refine Am rfl rfl ?_;clear hKK hg hr;go_simp;simpa[AF,e9,e8]using h
 .rintro a X ⟨t,v3,rfl,hp⟩;exact hQ t v3 X hp
theorem aH (D K:Nat)(v:Wr)(pl:Int)(fo:Bool)(x:Ob)(A:OA)(b off C:Nat)(w:World)(hD:D<w.1.size)(hd:CK w D K v pl fo)(hs:∀o:Obj,Calls prog 154 #[.p D 0] (w.alloc o) λe w'=>e=.returned (.tuple #[.agg (vO x A C),.nilIface])/\Below (w.alloc o).1.size (w.alloc o) w')(hl:(x.hn:Int)<=1000)(hc:AB w 0 w.1.size A x.hn x.hs)(ha:EX x.hn x.hs)(hrc:DT w 1 A b off x.hn C (Bh x.hn x.hs))(hh:D2 x.hn x.hs v.hold=true):Calls prog 100 #[.p D 0] w λe w'=>e=.returned (.tuple #[.agg #[.s ⟨#[]⟩,.s ⟨#[]⟩,.i 0,.i 0,.s ⟨#[]⟩,.bool false,.l none 0 0],.iface 90 (.agg #[.i 6,.i 0])])/\Below w.1.size w w':=by
 have HS:=Ai hs;have HD:=Ai hd;have HC:=Ai hc;have sA:=Ai hrc;clear hs hd hc hrc;go_enter func100,ntmps100;go_wp2_with fail;refine(HS _).mono ?_;rintro e w1 ⟨rfl,hb1⟩;have z1:=(BL hb1).2;have b1:=(BL hb1).1;have r1:=Ai (AS (w:=w) (l:=[.s ⟨#[]⟩,.s ⟨#[]⟩,.i 0,.i 0,.s ⟨#[]⟩,.bool false,.l none 0 0]) (t:=118) hb1);clear hb1;go_wp2_with fail;have B2:=b1.trans ((Ae w1 (.cells (vO x A C) 118)).mono b1.size);refine UX (λ_=>undef) D K w1.1.size v pl fo x A C _ Zd Ze (HD.grow B2 hD) (Cz rfl) Za ((HC.below B2 Bj).mono Bj B2.size) ha rfl _ ?_;intro t X hbX;have r2:=Ai (AS (w:=w1) (l:=[.s x.kind,.s x.name,.i x.ver,.i x.born,.s x.text,.bool x.ending,.l A x.hn C]) (t:=118) hbX);have B3:=Ai (B2.trans (hbX.mono B2.size));have zX:w1.1.size<X.1.size:=by have:=hbX.size;simp at this;omega
 have r3:=Ai (AH.below (B:=w1.1.size) r1 ((Ae w1 (.cells (vO x A C) 118)).trans (hbX.mono Ze)) z1);clear hbX B2 r1;have p0:=r3.cell 0 Zf;have p1:=r3.cell 1 Zf;have p2:=r3.cell 2 Zf;have p3:=r3.cell 3 Zf;have p4:=r3.cell 4 Zf;have p5:=r3.cell 5 Zf;have p6:=r3.cell 6 Zf;have pf:=r3.free;simp only[Bg,Af,Ag]at p0 p1 p2 p3 p4 p5 p6;have q0:=r2.cell 0 Zf;have q1:=r2.cell 1 Zf;have q2:=r2.cell 2 Zf;have q3:=r2.cell 3 Zf;have q4:=r2.cell 4 Zf;have q5:=r2.cell 5 Zf;have q6:=r2.cell 6 Zf;have qf:=r2.free;simp only[Bg,Af,Ag]at q0 q1 q2 q3 q4 q5 q6;rw[hh];go_wp2;refine bodyPost_ret (v:=.tuple #[.agg #[.s ⟨#[]⟩,.s ⟨#[]⟩,.i 0,.i 0,.s ⟨#[]⟩,.bool false,.l none 0 0],.iface 90 (.agg #[.i 6,.i 0])]) (by simp[results,results100,go_sem,p0,p1,p2,p3,p4,p5,p6]) rfl ⟨rfl,by repeat(first|with_reducible exact B3.out|with_reducible refine AJ ?_ Zo _|with_reducible refine Ba ?_ Zo _|with_reducible refine Bb ?_)⟩
theorem Xj (D K:Nat)(v:Wr)(pl:Int)(fo:Bool)(x:Ob)(A:OA)(b off C:Nat)(w:World)(hD:D<w.1.size)(hd:CK w D K v pl fo)(hs:∀o:Obj,Calls prog 154 #[.p D 0] (w.alloc o) λe w'=>e=.returned (.tuple #[.agg (vO x A C),.nilIface])/\Below (w.alloc o).1.size (w.alloc o) w')(hl:(x.hn:Int)<=1000)(hc:AB w 0 w.1.size A x.hn x.hs)(ha:EX x.hn x.hs)(hrc:DT w 1 A b off x.hn C (Bh x.hn x.hs))(hh:D2 x.hn x.hs v.hold=false)(h5:x.hn=5):Calls prog 100 #[.p D 0] w λe w'=>e=.returned (.tuple #[.agg #[.s ⟨#[]⟩,.s ⟨#[]⟩,.i 0,.i 0,.s ⟨#[]⟩,.bool false,.l none 0 0],.iface 90 (.agg #[.i 7,.i 0])])/\Below w.1.size w w':=by
 have HS:=Ai hs;have HD:=Ai hd;have HC:=Ai hc;have sA:=Ai hrc;clear hs hd hc hrc;have H5:=Ai h5;clear h5;go_enter func100,ntmps100;go_wp2_with fail;refine(HS _).mono ?_;rintro e w1 ⟨rfl,hb1⟩;have z1:=(BL hb1).2;have b1:=(BL hb1).1;have r1:=Ai (AS (w:=w) (l:=[.s ⟨#[]⟩,.s ⟨#[]⟩,.i 0,.i 0,.s ⟨#[]⟩,.bool false,.l none 0 0]) (t:=118) hb1);clear hb1;go_wp2_with fail;have B2:=b1.trans ((Ae w1 (.cells (vO x A C) 118)).mono b1.size);refine UX (λ_=>undef) D K w1.1.size v pl fo x A C _ Zd Ze (HD.grow B2 hD) (Cz rfl) Za ((HC.below B2 Bj).mono Bj B2.size) ha rfl _ ?_;intro t X hbX;have r2:=Ai (AS (w:=w1) (l:=[.s x.kind,.s x.name,.i x.ver,.i x.born,.s x.text,.bool x.ending,.l A x.hn C]) (t:=118) hbX);have B3:=Ai (B2.trans (hbX.mono B2.size));have zX:w1.1.size<X.1.size:=by have:=hbX.size;simp at this;omega
 have r3:=Ai (AH.below (B:=w1.1.size) r1 ((Ae w1 (.cells (vO x A C) 118)).trans (hbX.mono Ze)) z1);clear hbX B2 r1;have p0:=r3.cell 0 Zf;have p1:=r3.cell 1 Zf;have p2:=r3.cell 2 Zf;have p3:=r3.cell 3 Zf;have p4:=r3.cell 4 Zf;have p5:=r3.cell 5 Zf;have p6:=r3.cell 6 Zf;have pf:=r3.free;simp only[Bg,Af,Ag]at p0 p1 p2 p3 p4 p5 p6;have q0:=r2.cell 0 Zf;have q1:=r2.cell 1 Zf;have q2:=r2.cell 2 Zf;have q3:=r2.cell 3 Zf;have q4:=r2.cell 4 Zf;have q5:=r2.cell 5 Zf;have q6:=r2.cell 6 Zf;have qf:=r2.free;simp only[Bg,Af,Ag]at q0 q1 q2 q3 q4 q5 q6;rw[H5.out]at q6;rw[hh];go_wp2;refine bodyPost_ret (v:=.tuple #[.agg #[.s ⟨#[]⟩,.s ⟨#[]⟩,.i 0,.i 0,.s ⟨#[]⟩,.bool false,.l none 0 0],.iface 90 (.agg #[.i 7,.i 0])]) (by simp[results,results100,go_sem,p0,p1,p2,p3,p4,p5,p6]) rfl ⟨rfl,by repeat(first|with_reducible exact B3.out|with_reducible refine AJ ?_ Zo _|with_reducible refine Ba ?_ Zo _|with_reducible refine Bb ?_)⟩
theorem Yw (D K:Nat)(v:Wr)(pl:Int)(fo:Bool)(x:Ob)(A:OA)(b off C:Nat)(w:World)(hD:D<w.1.size)(hd:CK w D K v pl fo)(hs:∀o:Obj,Calls prog 157 #[.p D 0] (w.alloc o) λe w'=>e=.returned (.tuple #[.agg (vO x A C),.nilIface])/\Below (w.alloc o).1.size (w.alloc o) w')(hl:(x.hn:Int)<=1000)(hc:AB w 0 w.1.size A x.hn x.hs)(ha:EX x.hn x.hs)(hrc:DT w 1 A b off x.hn C (Bh x.hn x.hs))(hh:D2 x.hn x.hs v.hold=false):Calls prog 101 #[.p D 0] w λe w'=>e=.returned (.tuple #[.agg #[.s ⟨#[]⟩,.s ⟨#[]⟩,.i 0,.i 0,.s ⟨#[]⟩,.bool false,.l none 0 0],.iface 90 (.agg #[.i 6,.i 0])])/\Below w.1.size w w':=by
 have HS:=Ai hs;have HD:=Ai hd;have HC:=Ai hc;have sA:=Ai hrc;clear hs hd hc hrc;go_enter func101,ntmps101;go_wp2_with fail;refine(HS _).mono ?_;rintro e w1 ⟨rfl,hb1⟩;have z1:=(BL hb1).2;have b1:=(BL hb1).1;have r1:=Ai (AS (w:=w) (l:=[.s ⟨#[]⟩,.s ⟨#[]⟩,.i 0,.i 0,.s ⟨#[]⟩,.bool false,.l none 0 0]) (t:=118) hb1);clear hb1;go_wp2_with fail;have B2:=b1.trans ((Ae w1 (.cells (vO x A C) 118)).mono b1.size);refine Z6 (λ_=>undef) D K w1.1.size v pl fo x A C _ Zd Ze (HD.grow B2 hD) (Cz rfl) Za ((HC.below B2 Bj).mono Bj B2.size) ha rfl _ ?_;intro t X hbX;have r2:=Ai (AS (w:=w1) (l:=[.s x.kind,.s x.name,.i x.ver,.i x.born,.s x.text,.bool x.ending,.l A x.hn C]) (t:=118) hbX);have B3:=Ai (B2.trans (hbX.mono B2.size));have zX:w1.1.size<X.1.size:=by have:=hbX.size;simp at this;omega
 have r3:=Ai (AH.below (B:=w1.1.size) r1 ((Ae w1 (.cells (vO x A C) 118)).trans (hbX.mono Ze)) z1);clear hbX B2 r1;have p0:=r3.cell 0 Zf;have p1:=r3.cell 1 Zf;have p2:=r3.cell 2 Zf;have p3:=r3.cell 3 Zf;have p4:=r3.cell 4 Zf;have p5:=r3.cell 5 Zf;have p6:=r3.cell 6 Zf;have pf:=r3.free;simp only[Bg,Af,Ag]at p0 p1 p2 p3 p4 p5 p6;have q0:=r2.cell 0 Zf;have q1:=r2.cell 1 Zf;have q2:=r2.cell 2 Zf;have q3:=r2.cell 3 Zf;have q4:=r2.cell 4 Zf;have q5:=r2.cell 5 Zf;have q6:=r2.cell 6 Zf;have qf:=r2.free;simp only[Bg,Af,Ag]at q0 q1 q2 q3 q4 q5 q6;rw[hh];go_wp2;refine bodyPost_ret (v:=.tuple #[.agg #[.s ⟨#[]⟩,.s ⟨#[]⟩,.i 0,.i 0,.s ⟨#[]⟩,.bool false,.l none 0 0],.iface 90 (.agg #[.i 6,.i 0])]) (by simp[results,results101,go_sem,p0,p1,p2,p3,p4,p5,p6]) rfl ⟨rfl,by repeat(first|with_reducible exact B3.out|with_reducible refine AJ ?_ Zo _|with_reducible refine Ba ?_ Zo _|with_reducible refine Bb ?_)⟩
theorem kA (D K:Nat)(v:Wr)(pl:Int)(fo:Bool)(x:Ob)(A:OA)(b off C:Nat)(w:World)(hD:D<w.1.size)(hd:CK w D K v pl fo)(hs:∀o:Obj,Calls prog 154 #[.p D 0] (w.alloc o) λe w'=>e=.returned (.tuple #[.agg (vO x A C),.nilIface])/\Below (w.alloc o).1.size (w.alloc o) w')(hl:(x.hn:Int)<=1000)(hc:AB w 0 w.1.size A x.hn x.hs)(ha:EX x.hn x.hs)(hrc:DT w 1 A b off x.hn C (Bh x.hn x.hs))(hh:D2 x.hn x.hs v.hold=false)(h5:¬x.hn=5):Calls prog 100 #[.p D 0] w λe w'=>∃a4 c4,e=.returned (.tuple #[.agg #[.s x.kind,.s x.name,.i x.ver,.i x.born,.s x.text,.bool x.ending,.l a4 (x.hn+1) c4],.nilIface])/\w'.ownsRow w.1.size 9 1 (.l a4 (x.hn+1) c4) (x.hn+1) ((Bh x.hn x.hs).take (DY x.hs v.hold x.hn*1)++[.s v.hold]++(Bh x.hn x.hs).drop (DY x.hs v.hold x.hn*1))/\Below w.1.size w w':=by
 have HS:=Ai hs;have HD:=Ai hd;have HC:=Ai hc;have sA:=Ai hrc;clear hs hd hc hrc;go_enter func100,ntmps100;go_wp2_with fail;refine(HS _).mono ?_;rintro e w1 ⟨rfl,hb1⟩;have z1:=(BL hb1).2;have b1:=(BL hb1).1;have r1:=Ai (AS (w:=w) (l:=[.s ⟨#[]⟩,.s ⟨#[]⟩,.i 0,.i 0,.s ⟨#[]⟩,.bool false,.l none 0 0]) (t:=118) hb1);clear hb1;go_wp2_with fail;have B2:=b1.trans ((Ae w1 (.cells (vO x A C) 118)).mono b1.size);refine UX (λ_=>undef) D K w1.1.size v pl fo x A C _ Zd Ze (HD.grow B2 hD) (Cz rfl) Za ((HC.below B2 Bj).mono Bj B2.size) ha rfl _ ?_;intro t X hbX;have r2:=Ai (AS (w:=w1) (l:=[.s x.kind,.s x.name,.i x.ver,.i x.born,.s x.text,.bool x.ending,.l A x.hn C]) (t:=118) hbX);have B3:=Ai (B2.trans (hbX.mono B2.size));have zX:w1.1.size<X.1.size:=by have:=hbX.size;simp at this;omega
 have r3:=Ai (AH.below (B:=w1.1.size) r1 ((Ae w1 (.cells (vO x A C) 118)).trans (hbX.mono Ze)) z1);clear hbX B2 r1;have q0:=r2.cell 0 Zf;have q1:=r2.cell 1 Zf;have q2:=r2.cell 2 Zf;have q3:=r2.cell 3 Zf;have q4:=r2.cell 4 Zf;have q5:=r2.cell 5 Zf;have q6:=r2.cell 6 Zf;have qf:=r2.free;simp only[Bg,Af,Ag]at q0 q1 q2 q3 q4 q5 q6;have h5':((x.hn:Int)==5)=false:=Zd;rw[hh];go_wp2_with fail;clear q0 q1 q2 q3 q4 q5 q6 qf h5';refine rM (λ_=>undef) D K w1.1.size v pl fo x A b off C (DY x.hs v.hold x.hn) X Za zX (HD.grow B3 hD) r2 Za (I5 x.hs v.hold x.hn).1 (sA.grow B3) rfl _ ?_;rintro t' v3 X2 ⟨v4,hown,hr4,hf⟩;obtain⟨a4,c4,rfl⟩:=DK hown;have z2:=hf.size;have HO:=Ai hown;have r5:=r3.fr hf Za;have B4:=Ai (B3.trans (hf.below (B:=w.1.size) (λq hq e=>by omega) Za));have p0:=r5.cell 0 Zf;have p1:=r5.cell 1 Zf;have p2:=r5.cell 2 Zf;have p3:=r5.cell 3 Zf;have p4:=r5.cell 4 Zf;have p5:=r5.cell 5 Zf;have p6:=r5.cell 6 Zf;have pf:=r5.free;simp only[Bg,Af,Ag]at p0 p1 p2 p3 p4 p5 p6;have q0:=hr4.cell 0 Zf;have q1:=hr4.cell 1 Zf;have q2:=hr4.cell 2 Zf;have q3:=hr4.cell 3 Zf;have q4:=hr4.cell 4 Zf;have q5:=hr4.cell 5 Zf;have q6:=hr4.cell 6 Zf;have qf:=hr4.free;simp only[Bg,Af,Ag]at q0 q1 q2 q3 q4 q5 q6;clear hown hr4 hf r5;go_wp2;refine bodyPost_ret (v:=.tuple #[.agg #[.s x.kind,.s x.name,.i x.ver,.i x.born,.s x.text,.bool x.ending,.l a4 (x.hn+1) c4],.nilIface]) (by simp[results,results100,go_sem,p0,p1,p2,p3,p4,p5,p6]) rfl ⟨a4,c4,rfl,?_,by repeat(first|with_reducible exact B4.out|with_reducible refine AJ ?_ Zo _|with_reducible refine Ba ?_ Zo _|with_reducible refine Bb ?_)⟩;refine CB (CD HO Za) (P:=λq=>q=w.1.size) ?_ (λg hg e=>by have:=(HO.lt g hg).1;omega);iterate 7 refine AP.setCell (P:=λq=>q=w.1.size) ?_ (by rfl) _
 exact AP.refl _ _
theorem gF (D K:Nat)(v:Wr)(pl:Int)(fo:Bool)(x:Ob)(A:OA)(b off C:Nat)(w:World)(hD:D<w.1.size)(hd:CK w D K v pl fo)(hs:∀o:Obj,Calls prog 157 #[.p D 0] (w.alloc o) λe w'=>e=.returned (.tuple #[.agg (vO x A C),.nilIface])/\Below (w.alloc o).1.size (w.alloc o) w')(hl:(x.hn:Int)<=1000)(hc:AB w 0 w.1.size A x.hn x.hs)(ha:EX x.hn x.hs)(hrc:DT w 1 A b off x.hn C (Bh x.hn x.hs))(hh:D2 x.hn x.hs v.hold=true)(hk:DY x.hs v.hold x.hn<x.hn):Calls prog 101 #[.p D 0] w λe w'=>∃a4 c4,e=.returned (.tuple #[.agg #[.s x.kind,.s x.name,.i x.ver,.i x.born,.s x.text,.bool x.ending,.l a4 (x.hn-1) c4],.nilIface])/\w'.ownsRow w.1.size 9 1 (.l a4 (x.hn-1) c4) (x.hn-1) ((Bh x.hn x.hs).take (DY x.hs v.hold x.hn*1)++(Bh x.hn x.hs).drop ((DY x.hs v.hold x.hn+1)*1))/\Below w.1.size w w':=by
 have HS:=Ai hs;have HD:=Ai hd;have HC:=Ai hc;have sA:=Ai hrc;clear hs hd hc hrc;go_enter func101,ntmps101;go_wp2_with fail;refine(HS _).mono ?_;rintro e w1 ⟨rfl,hb1⟩;have z1:=(BL hb1).2;have b1:=(BL hb1).1;have r1:=Ai (AS (w:=w) (l:=[.s ⟨#[]⟩,.s ⟨#[]⟩,.i 0,.i 0,.s ⟨#[]⟩,.bool false,.l none 0 0]) (t:=118) hb1);clear hb1;go_wp2_with fail;have B2:=b1.trans ((Ae w1 (.cells (vO x A C) 118)).mono b1.size);refine Z6 (λ_=>undef) D K w1.1.size v pl fo x A C _ Zd Ze (HD.grow B2 hD) (Cz rfl) Za ((HC.below B2 Bj).mono Bj B2.size) ha rfl _ ?_;intro t X hbX;have r2:=Ai (AS (w:=w1) (l:=[.s x.kind,.s x.name,.i x.ver,.i x.born,.s x.text,.bool x.ending,.l A x.hn C]) (t:=118) hbX);have B3:=Ai (B2.trans (hbX.mono B2.size));have zX:w1.1.size<X.1.size:=by have:=hbX.size;simp at this;omega
 have r3:=Ai (AH.below (B:=w1.1.size) r1 ((Ae w1 (.cells (vO x A C) 118)).trans (hbX.mono Ze)) z1);clear hbX B2 r1;have q0:=r2.cell 0 Zf;have q1:=r2.cell 1 Zf;have q2:=r2.cell 2 Zf;have q3:=r2.cell 3 Zf;have q4:=r2.cell 4 Zf;have q5:=r2.cell 5 Zf;have q6:=r2.cell 6 Zf;have qf:=r2.free;simp only[Bg,Af,Ag]at q0 q1 q2 q3 q4 q5 q6;rw[hh];go_wp2_with fail;refine(ZS A b off x.hn C (DY x.hs v.hold x.hn) (Bh x.hn x.hs) X (sA.grow B3) hk Za).mono ?_;rintro r X2 ⟨v4,rfl,hown,hb4⟩;obtain⟨a4,c4,rfl⟩:=DK hown;have z2:=hb4.size;have HO:=Ai hown;have r5:=r3.below hb4 Za;have r6:=r2.below hb4 zX;have B4:=Ai (B3.trans (hb4.mono Za));clear q0 q1 q2 q3 q4 q5 q6 qf;have p0:=r5.cell 0 Zf;have p1:=r5.cell 1 Zf;have p2:=r5.cell 2 Zf;have p3:=r5.cell 3 Zf;have p4:=r5.cell 4 Zf;have p5:=r5.cell 5 Zf;have p6:=r5.cell 6 Zf;have pf:=r5.free;simp only[Bg,Af,Ag]at p0 p1 p2 p3 p4 p5 p6;have q0:=r6.cell 0 Zf;have q1:=r6.cell 1 Zf;have q2:=r6.cell 2 Zf;have q3:=r6.cell 3 Zf;have q4:=r6.cell 4 Zf;have q5:=r6.cell 5 Zf;have q6:=r6.cell 6 Zf;have qf:=r6.free;simp only[Bg,Af,Ag]at q0 q1 q2 q3 q4 q5 q6;clear hown hb4 r5 r6;go_wp2;refine bodyPost_ret (v:=.tuple #[.agg #[.s x.kind,.s x.name,.i x.ver,.i x.born,.s x.text,.bool x.ending,.l a4 (x.hn-1) c4],.nilIface]) (by simp[results,results101,go_sem,p0,p1,p2,p3,p4,p5,p6]) rfl ⟨a4,c4,rfl,?_,by repeat(first|with_reducible exact B4.out|with_reducible refine AJ ?_ Zo _|with_reducible refine Ba ?_ Zo _|with_reducible refine Bb ?_)⟩;refine CB (CD HO Za) (P:=λq=>q=w.1.size\/q=w1.1.size) ?_ (λg hg e=>by have:=(HO.lt g hg).1;omega);iterate 8 refine AP.setCell (P:=λq=>q=w.1.size\/q=w1.1.size) ?_ (by first|exact AD rfl|exact Ax rfl) _
 exact AP.refl _ _
end Go.Proofs.YtllmmkchokkaaaaGreatDoor
