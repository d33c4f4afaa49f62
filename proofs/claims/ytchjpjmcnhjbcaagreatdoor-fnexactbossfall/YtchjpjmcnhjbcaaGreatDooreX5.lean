import Derived.Test.YtchjpjmcnhjbcaaGreatDooreQD
import Derived.Maps.RangeWalk
import Derived.Laws.IdiomRangeMap
set_option linter.unusedVariables false
set_option maxHeartbeats 8000000
set_option maxRecDepth 100000
namespace Go.Proofs.YtchjpjmcnhjbcaaGreatDoor
open Proofs.Tryz Go.RowKit
variable {S rest t:List UInt8} {a base k n p:Nat} {w:World} {v:Value} {rs:List R3} {key:BY}
theorem kX:∀ n:Fin 16,hx (hexL.getD n.val 0)=(n.val:Int):=o6
theorem bD (n:Nat) (h:n<16):hx (hexL.getD n 0)=n:=kX ⟨n,h⟩
theorem jr (b:UInt8):-1<=hx b/\hx b<=15:=by
 unfold hx
 (repeat' split) <;> omega
def Oz (S t:List UInt8) (k:Nat):Prop:=∀ l,S=P5 l->∃ r,l=t++r/\S.drop k=r.flatMap qb++[34]
theorem kN (S:List UInt8):Oz S [] 1:=fun l h=>⟨l,rfl,by rw [h];rfl⟩
theorem xU (h:Oz S t k) (hk:S.length<=k+1) (l:List UInt8) (e:S=P5 l):t=l:=by
 obtain ⟨r,h1,h2⟩:=h l e
 cases r with
 | nil=>simpa using h1.symm
 | cons c r=>
  have hq:1<=(qb c).length:=pq.2 (oL c);have:=U6 List.length h2;simp only [yj,vg,D9,o_,Ee] at this;omega
theorem a0B {a b:UInt8} (h:Oz S t k) (hd:S.drop k=92::a::b::rest):Oz S (t++[UInt8.ofNat (16*hx a+hx b).toNat]) (k+3):=by
 intro l e;obtain ⟨r,h1,h2⟩:=h l e
 cases r with
 | nil=>rw [hd] at h2;simp at h2
 | cons c r=>
  rw [hd,vg] at h2;cases hc:H_ c
  · rw [Gf hc] at h2;simp only [rf,Ua,zi,Oy] at h2;obtain ⟨ha,d,hr⟩:=h2;have lc:=Gt c;have e1:hx a=(c.toNat / 16:Nat):=by rw [ha];exact bD _ O0
    have g:hx b=(c.toNat % 16:Nat):=by rw [d];exact bD _ O0
    have f:UInt8.ofNat (16*hx a+hx b).toNat=c:=by
     rw [e1,g];apply Yh.1;have:(16*((c.toNat / 16:Nat):Int)+((c.toNat % 16:Nat):Int)).toNat=c.toNat:=O0;rw [this];simp
    refine ⟨r,by rw [h1,f];simp,?_⟩;rw [<- yE,hd];exact hr
  · rw [uf hc] at h2;simp only [rf,Ua,zi] at h2;rw [<- h2.1,Zz] at hc;cases hc
theorem ZJ {x:UInt8} (h:Oz S t k) (hd:S.drop k=x::rest) (g:rest≠[])
 (i:∀ a b c q,x=92->rest=a::b::c::q->hx a<0\/hx b<0):Oz S (t++[x]) (k+1):=by
 intro l e;obtain ⟨r,h1,h2⟩:=h l e
 cases r with
 | nil=>rw [hd] at h2;simp at h2;exact absurd h2.2 g
 | cons c r=>
  rw [hd,vg] at h2;cases hc:H_ c
  · rw [Gf hc] at h2;simp only [rf,Ua,zi] at h2;obtain ⟨f,hr⟩:=h2;exfalso;have lc:=Gt c;have e1:=bD (c.toNat / 16) O0;have e2:=bD (c.toNat % 16) O0;rcases hq:r.flatMap qb++[34] with _ | ⟨d,q⟩
    · simp at hq
    · rw [hq] at hr;rcases i _ _ _ _ f hr with h | h <;> omega
  · rw [uf hc] at h2;simp only [rf,Ua,zi] at h2;refine ⟨r,by rw [h1,h2.1];simp,?_⟩;rw [<- yE,hd];exact h2.2
theorem dP (s:BY) (k:Nat) (h:k<s.size):s.data.toList.drop k=s[k]::s.data.toList.drop (k+1):=by
 rw [Xz (by simpa using h)];rfl
theorem pV (a b:UInt8) (h1:0<=hx a) (h2:0<=hx b):((UInt8.ofNat (16*hx a+hx b).toNat).toNat:Int)=16*hx a+hx b:=by
 have:=jr a;have:=jr b;simp;omega
theorem a0u {g:Nat} {l:List UInt8} (h:w.ownsRow base 5 1 (.slice (some ⟨g,0,none⟩) l.length a) l.length (Lib.byteCells l)):(convert 183 9 (.slice (some ⟨g,0,none⟩) l.length a)).run prog w=.ok (.string (J3 l)) w:=by
 have:=run_convert_bytes_arg (P:=prog) w 183 5 underlying183 underlying5 g 0 l.length a (l.map fun b=>(b.toNat:Int)) X4 (fun i c=>by
  rw [L8,h.cellAt i O0];simp [Lib.byteCells,c]) 9 underlying9
 rw [this];have e:l.map ((fun n:Int=>UInt8.ofNat n.toNat)∘fun b=>(b.toNat:Int))=l:=(Ku (fun b _=>X4)).trans (JE l);simp only [strOfNums,ru,e];rfl
theorem Yn {e:TypeId} {size:Nat} {xs:List Value} (h:w.ownsRow base e size v n xs) (hn:0<n):∃ g a,v=.slice (some ⟨g,0,none⟩) n a:=by
 rcases h.2 with ⟨_,h0⟩ | ⟨g,b,cur,hv,_⟩
 · omega
 · exact ⟨g,b,hv⟩
theorem c139 (s:BY) (w:World) (hs:s.size<=1048700):
 Calls prog 139 #[.string s] w fun e w'=>(∃ t,e=.returned (.string (J3 t))/\t.length<=s.size+1/\∀ l,s.data.toList=P5 l->t=l)/\Bw w w':=by
 obtain ⟨H,L,K,J,I⟩:=info_parts info5;go_enter func139,ntmps139
 go_wp2_with fail
 go_loopw [3,4] (fun v i wr=>∃ (k:Nat) (t:List UInt8),1<=k/\k<=s.size+1/\i=.int .i64 k/\t.length<=k/\wr.ownsRow w.heap.size 5 1 v t.length (Lib.byteCells t)/\Hid (∃ g R,v=.slice (some ⟨g,0,none⟩) t.length R)/\Hid (Oz s.data.toList t k)/\Below w.heap.size w wr/\w.heap.size+1<=wr.heap.size) (fun _ i _=>s.size+1 - (RowKit.intOf i).toNat)
 case atStart=>exact ⟨1,[],O0,O0,rfl,X4,Iu _ #[] 0 H8 (J4 _) rfl,⟨_,_,rfl⟩,kN _,P6,X4⟩
 case round=>
  obtain ⟨k,t,hk1,hk2,rfl,htk,o,hfm,E,p,hz⟩:=hrel;by_cases Z:k+1<s.size
  · have hlk:k<s.size:=O0;have N:=U0 (dP s k hlk);have D:=U0 (dP s (k+1) Z);by_cases B:s[k]=92
    · have e92:((s[k].toNat:Int)==92)=true:=by rw [B];rfl
      by_cases h3:k+3<s.size
      · have hlk2:k+2<s.size:=O0;have S:=U0 (dP s (k+2) hlk2);have r1:=jr s[k+1];have r2:=jr s[k+2];by_cases Y:0<=hx s[k+1]
        · by_cases X:0<=hx s[k+2]
          · have C:=U0 (a0B E.out (by rw [N.out,D.out,S.out,B]));have HB:=U0 (pV _ _ Y X);clear B
            go_wp2_with (go_at_call 184;refine (ZM _ _).mono ?_;rintro e F ⟨rfl,n⟩;obtain rfl:=n.symm)
            have W:IntKind.i64.wrap ((k:Int)+1)=((k+1:Nat):Int):=by simp [IntKind.wrap,IntKind.signed,IntKind.bits];omega
            have V:IntKind.i64.wrap ((k:Int)+2)=((k+2:Nat):Int):=by simp [IntKind.wrap,IntKind.signed,IntKind.bits];omega
            have U:IntKind.i64.wrap (16*hx s[k+1])=16*hx s[k+1]:=by simp [IntKind.wrap,IntKind.signed,IntKind.bits];omega
            have P:IntKind.i64.wrap (16*hx s[k+1]+hx s[k+2])=16*hx s[k+1]+hx s[k+2]:=by simp [IntKind.wrap,IntKind.signed,IntKind.bits];omega
            have O:IntKind.u8.wrap (16*hx s[k+1]+hx s[k+2])=16*hx s[k+1]+hx s[k+2]:=by simp [IntKind.wrap,IntKind.signed,IntKind.bits];omega
            have WA:Hid (IntKind.u8.wrap (IntKind.i64.wrap (16*hx s[k+1]+hx s[k+2]))=16*hx s[k+1]+hx s[k+2]):=by rw [P,O];rfl
            have hc1:((k+1:Nat):Int)<(s.size:Int):=O0;have hc2:((k+2:Nat):Int)<(s.size:Int):=O0
            go_region_law (first | (refine Ur rfl (.tmp 40) (.tmp 54) 183 rfl w.heap.size 5 H (.int .u8 0) 1 1 underlying183 L K J I rfl o6 _ _ _ rfl ((o.drew).alloc _) (aW wr 0) 1 1 [_] rfl rfl (cell_one_new _ _ _) (by intro u d;simp at d;subst d;rfl) (by unfold maxLen;omega) O0 U7 ?_;intro v' r x m) | (go_simp;go_wp2_with (go_at_call 184;refine (ZM _ _).mono ?_;rintro e F ⟨rfl,n⟩;obtain rfl:=n.symm)))
            all_goals clear W V U P O hc1 hc2
            all_goals go_wp2
            all_goals go_roundw
            all_goals (try (simp [RowKit.intOf];omega;done))
            all_goals
             have A:=((p.drew).alloc p.size _).grown m U7 (fun j y=>(o.lt j y).1);have f:r.ownsRow w.heap.size 5 1 v' (t++[UInt8.ofNat (16*hx s[k+1]+hx s[k+2]).toNat]).length (Lib.byteCells (t++[UInt8.ofNat (16*hx s[k+1]+hx s[k+2]).toNat])):=by
              rw [O_,D9];rw [show Lib.byteCells [UInt8.ofNat (16*hx s[k+1]+hx s[k+2]).toNat]=[.int .u8 (16*hx s[k+1]+hx s[k+2])] from U6 (fun z:Int=>[Value.int .u8 z]) HB.out];have Q:=x;simp only [show ((k:Int)+2).toNat=k+2 by omega,WA.out] at Q;exact Q
             exact ⟨k+3,_,O0,O0,by go_num,U7,f,Yn f X4,C,A,by have:=m.size;simp at this;omega⟩
          · have C:=U0 (ZJ E.out (by rw [N.out]) (by rw [D.out];simp) (fun a b c q _ h=>.inr (by rw [D.out,S.out] at h;injection h with _ h;injection h with h _;rw [<- h];omega)));clear B
            go_wp2_with (first | (go_at_call 184;refine (ZM _ _).mono ?_;rintro e F ⟨rfl,n⟩;obtain rfl:=n.symm) | (at_builtin;refine wpList_append_own _ rfl _ _ 183 rfl w.heap.size 5 H (.int .u8 0) 1 1 underlying183 L K J I rfl o6 _ _ _ rfl (o.alloc _) ⟨wr.heap.size,0,none⟩ 1 1 [_] rfl rfl (cell_one_new _ _ _) (by intro u d;simp at d;subst d;rfl) (by unfold maxLen;omega) O0 U7 ?_;intro v' r x m _))
            go_roundw
            case rel=>
             have A:=(p.alloc p.size _).grown m U7 (fun j y=>(o.lt j y).1);have f:r.ownsRow w.heap.size 5 1 v' (t++[s[k]]).length (Lib.byteCells (t++[s[k]])):=by rw [O_,D9];exact x
             exact ⟨k+1,t++[s[k]],O0,O0,by go_num,U7,f,Yn f X4,C,A,by have:=m.size;simp at this;omega⟩
            case measure=>simp [RowKit.intOf];omega
        · have C:=U0 (ZJ E.out (by rw [N.out]) (by rw [D.out];simp) (fun a b c q _ h=>.inl (by rw [D.out] at h;injection h with h _;rw [<- h];omega)));clear B
          go_wp2_with (first | (go_at_call 184;refine (ZM _ _).mono ?_;rintro e F ⟨rfl,n⟩;obtain rfl:=n.symm) | (at_builtin;refine wpList_append_own _ rfl _ _ 183 rfl w.heap.size 5 H (.int .u8 0) 1 1 underlying183 L K J I rfl o6 _ _ _ rfl (o.alloc _) ⟨wr.heap.size,0,none⟩ 1 1 [_] rfl rfl (cell_one_new _ _ _) (by intro u d;simp at d;subst d;rfl) (by unfold maxLen;omega) O0 U7 ?_;intro v' r x m _))
          go_roundw
          case rel=>
           have A:=(p.alloc p.size _).grown m U7 (fun j y=>(o.lt j y).1);have f:r.ownsRow w.heap.size 5 1 v' (t++[s[k]]).length (Lib.byteCells (t++[s[k]])):=by rw [O_,D9];exact x
           exact ⟨k+1,t++[s[k]],O0,O0,by go_num,U7,f,Yn f X4,C,A,by have:=m.size;simp at this;omega⟩
          case measure=>simp [RowKit.intOf];omega
      · have C:=U0 (ZJ E.out (by rw [N.out]) (by rw [D.out];simp) (fun a b c q _ h=>by have hh:=U6 List.length h;simp at hh;omega));clear B
        go_wp2_with (first | (go_at_call 184;refine (ZM _ _).mono ?_;rintro e F ⟨rfl,n⟩;obtain rfl:=n.symm) | (at_builtin;refine wpList_append_own _ rfl _ _ 183 rfl w.heap.size 5 H (.int .u8 0) 1 1 underlying183 L K J I rfl o6 _ _ _ rfl (o.alloc _) ⟨wr.heap.size,0,none⟩ 1 1 [_] rfl rfl (cell_one_new _ _ _) (by intro u d;simp at d;subst d;rfl) (by unfold maxLen;omega) O0 U7 ?_;intro v' r x m _))
        go_roundw
        case rel=>
         have A:=(p.alloc p.size _).grown m U7 (fun j y=>(o.lt j y).1);have f:r.ownsRow w.heap.size 5 1 v' (t++[s[k]]).length (Lib.byteCells (t++[s[k]])):=by rw [O_,D9];exact x
         exact ⟨k+1,t++[s[k]],O0,O0,by go_num,U7,f,Yn f X4,C,A,by have:=m.size;simp at this;omega⟩
        case measure=>simp [RowKit.intOf];omega
    · have e92:((s[k].toNat:Int)==92)=false:=by
       simp only [p_];intro e;exact B (Yh.1 (by
        have:s[k].toNat=92:=O0;rw [this];rfl))
      have C:=U0 (ZJ E.out (by rw [N.out]) (by rw [D.out];simp) (fun a b c q h _=>absurd h B));clear B
      go_wp2_with (first | (go_at_call 184;refine (ZM _ _).mono ?_;rintro e F ⟨rfl,n⟩;obtain rfl:=n.symm) | (at_builtin;refine wpList_append_own _ rfl _ _ 183 rfl w.heap.size 5 H (.int .u8 0) 1 1 underlying183 L K J I rfl o6 _ _ _ rfl (o.alloc _) ⟨wr.heap.size,0,none⟩ 1 1 [_] rfl rfl (cell_one_new _ _ _) (by intro u d;simp at d;subst d;rfl) (by unfold maxLen;omega) O0 U7 ?_;intro v' r x m _))
      go_roundw
      case rel=>
       have A:=(p.alloc p.size _).grown m U7 (fun j y=>(o.lt j y).1);have f:r.ownsRow w.heap.size 5 1 v' (t++[s[k]]).length (Lib.byteCells (t++[s[k]])):=by rw [O_,D9];exact x
       exact ⟨k+1,t++[s[k]],O0,O0,by go_num,U7,f,Yn f X4,C,A,by have:=m.size;simp at this;omega⟩
      case measure=>simp [RowKit.intOf];omega
  · have HE:=U0 (xU E.out U7);have HL:Hid (t.length<=s.size+1):=by show t.length<=s.size+1;omega
    obtain ⟨g,R,hv⟩:=hfm.out;subst hv;have hcv:=a0u o;go_wp2;go_ret;exact ⟨⟨t,rfl,HL.out,HE.out⟩,p⟩
open Go.RowKit Go.Maps
theorem sV (h:k<(Kw rs key).length):∃ p:Nat,(Kw rs key).getD k 0=(p:Int)/\p<rs.length/\(rs.getD p f_).key=key:=by
 unfold Kw at h ⊢;rw [Vd] at h;have hm:=Bj h;refine ⟨_,?_,Lr.1 (Fv.1 hm).1,by simpa using (Fv.1 hm).2⟩;rw [Fj,Yr,Z8 h];rfl
theorem lW (b:p<rs.length) (d:(rs.getD p f_).key=key):∃ k,k<(Kw rs key).length/\(Kw rs key).getD k 0=(p:Int):=by
 unfold Kw;have hm:p∈(List.range rs.length).filter fun i=>decide ((rs.getD i f_).key=key):=Fv.2 ⟨Lr.2 b,by simpa using d⟩;obtain ⟨k,a,c⟩:=Zd hm;refine ⟨k,by rw [Vd];exact a,?_⟩;rw [Fj,Yr,Z8 a,c];rfl
theorem DN (a:p<rs.length):rs.getD p f_∈rs:=by
 have:rs.getD p f_=rs[p]:=by simp [List.getD,Z8 a]
 rw [this];exact Bj a
theorem QM {x:R3} (h:x∈rs):∃ p,p<rs.length/\rs.getD p f_=x:=by
 obtain ⟨p,a,e⟩:=Zd h;exact ⟨p,a,by simp [List.getD,Z8 a,e]⟩
theorem BI {B:Nat} {va:OA} {zs:List Int} (h:w.ownsInts B 3 .i64 (.slice va n a) zs):n=zs.length/\(n=0\/∃ g,va=some ⟨g,0,none⟩/\g<w.heap.size/\∀ k,k<n->w.cell? ⟨g,k,none⟩=some (.int .i64 (zs.getD k 0))):=by
 have b:=h.1;rcases h.1.2 with ⟨hv,h0⟩ | ⟨g,cap,cur,hv,hg,d,_⟩
 · simp at hv;exact ⟨O0,.inl O0⟩
 · simp only [Vq] at hv;obtain ⟨rfl,rfl,rfl⟩:=hv;refine ⟨rfl,.inr ⟨g,rfl,(r_.1 d).1,fun k c=>?_⟩⟩;rw [b.cellAt k O0];simp [List.getD,Z8 c]
theorem a3l (B H bT bR bP:Nat) (W:Int) (l:List (ByteArray×Value)) (rs:List R3) (rv:List Value) (x:R3) (a:OA) (c:Nat) (w:World) (hSh:Sh B H bT bR bP W l rs rv w) (hx:R_ w a x.gs) (hn:rs.length<=1000) (hk:x.key.size<=1048700) (hg:x.gs.length<=1048576) (hgs:∀ i,(rs.getD i f_).gs.length<=1048576):
 Calls prog 214 #[.pointer (some ⟨H,0,none⟩),.agg #[.string x.key,.slice a x.gs.length c,.string x.out]] w fun e w'=>Rb (x∈rs) e/\Bw w w':=by
 obtain ⟨pl,hC,hR⟩:=hSh;have hrl:=hR.len;have a4M:=hC.lt;obtain ⟨v,hv⟩:∃ v,(T_ pl x.key).getD (.slice none 0 0)=v:=⟨_,rfl⟩;have t:=ints_at hR hv (Z4 _ _);obtain ⟨va,vc,Q⟩:=I9 t.1;rw [Q] at t hv;obtain ⟨_,hcs⟩:=BI t;have HCS:=U0 hcs;have hln:(Kw rs x.key).length<=1000:=G7 (UC _ _) hn;obtain ⟨es,N,J,hpF,Z,hpD⟩:=hC.pc;obtain ⟨A,C,I,U,R,V⟩:=hC.rc;have hbP:=(r_.1 J).1;have hbR:=(r_.1 I).1;have hkm:x.key.size<=maxLen:=by unfold maxLen;omega
 have HLK:Hid (∀ u:World,u.heap[bP]?=some (.map es N)->(Instr.lookup 211 (.map (some bP)) (.string x.key) false).run prog u=.ok (.slice va (Kw rs x.key).length vc) u):=fun u q=>by
  rw [<- hv];exact OH (n:=pl.length) ⟨es,N,q,hpF,Z,hpD⟩ underlying211 Y2 hkm
 have HLA:Hid (∀ (u:World) (p:Nat),p<rs.length->u.heap[bR]?=some (.map A C)->(Instr.lookup 210 (.map (some bR)) (.int .i64 p) false).run prog u=.ok (rv.getD p undef) u):=fun u p o q=>
  FO (n:=rv.length) (z:=.agg #[.string ⟨#[]⟩,.slice none 0 0,.string ⟨#[]⟩]) ⟨A,C,q,U,R,V⟩ underlying210 Y2 O0 O0
 have HRC:=U0 hR.recs;have d:Bw w (w.alloc (.cells #[.string x.key,.slice a x.gs.length c,.string x.out] 145)):=P6;have sz0:(w.alloc (.cells #[.string x.key,.slice a x.gs.length c,.string x.out] 145)).heap.size=w.heap.size+1:=X4;have hp0:=(d.block bP hbP).trans J;have X:=(d.block bR hbR).trans I;have D:Hid (D5 (w.alloc (.cells #[.string x.key,.slice a x.gs.length c,.string x.out] 145)) w.heap.size [.string x.key,.slice a x.gs.length c,.string x.out]):=U0 (Z7 w [.string x.key,.slice a x.gs.length c,.string x.out] 145);have f2:=(hC.below d).blk 2 _ rfl;have f3:=(hC.below d).blk 3 _ rfl;have e0:=D.out 0 _ rfl;have e1:=D.out 1 _ rfl;have e2:=D.out 2 _ rfl;have HX:=U0 (P8 hx d);have HW:=U0 d;clear hC hR hx hv Q t J hpF Z hpD I U R V hcs hrl D;go_enter func214,ntmps214
 go_wp2_with fail
 generalize (w.alloc (.cells #[.string x.key,.slice a x.gs.length c,.string x.out] 145))=b at*;refine wp_region_held_drew (S:=(fun u=>u.cell? ⟨H,3,none⟩=some (.map (some bP))/\u.cell? ⟨w.heap.size,0,none⟩=some (.string x.key)/\u.heap[bP]?=some (.map es N))) Y2 ?_ fun hHeld=>?_
 · exact ⟨f3,e0,hp0⟩
 refine Y0 0 ?_;refine Y0 1 ?_;refine Y0 2 ?_;refine Y0 3 ?_;refine Y0 4 ?_;refine Y0 5 ?_;refine tq 6 hHeld ?_ (v:=?_) (hv:=?e)
 case e=>intro wq hSw;(try dsimp only at hSw);have hq:=HLK.out wq hSw.2.2;go_simp;try with_reducible rfl
 try simp only [qq]
 refine Y0 7 ?_;refine Y0 8 ?_;refine wdn ?_
 go_wp2_with fail
 go_loopw [15] (fun i wr=>∃ (k:Nat),k<=(Kw rs x.key).length/\i=.int .i64 k/\Hid (∀ j,j<k->rs.getD ((Kw rs x.key).getD j 0).toNat f_≠x)/\Below b.heap.size b wr) (fun i _=>(Kw rs x.key).length - (Go.RowKit.intOf i).toNat)
 case atStart=>exact ⟨0,J4 _,rfl,fun j r=>absurd r (J8 _),(Z4 _ _).drew⟩
 case round=>
  obtain ⟨k,hk,rfl,HJ,s⟩:=hrel;by_cases hlt:k<(Kw rs x.key).length
  · rcases HCS.out with h0 | ⟨g,hva,hgw,hcell⟩
    · omega
    subst hva;obtain ⟨p,O,o,hkp⟩:=sV hlt;have ck0:=(s.cell (p:=⟨g,k,none⟩) (show g<b.heap.size by omega)).trans ((d.cell (p:=⟨g,k,none⟩) hgw).trans (hcell k hlt));rw [O] at ck0;obtain ⟨a2,c2,F,L,_⟩:=HRC.out p o;have P:=hgs p;obtain ⟨y,E⟩:∃ y,rs.getD p f_=y:=⟨_,rfl⟩;rw [E] at F L P;have HY:=U0 E;clear E;have HLR:Hid (∀ u:World,u.heap[bR]?=some (.map A C)->(Instr.lookup 210 (.map (some bR)) (.int .i64 p) false).run prog u=.ok (.agg #[.string y.key,.slice a2 y.gs.length c2,.string y.out]) u):=fun u q=>by
     rw [<- F];exact HLA.out u p o q
    have f:=s.drew;have q2:=(f.cell (p:=⟨H,2,none⟩) (show H<b.heap.size by omega)).trans f2;have y0:=(f.cell (p:=⟨w.heap.size,0,none⟩) (show w.heap.size<b.heap.size by omega)).trans e0;have y1:=(f.cell (p:=⟨w.heap.size,1,none⟩) (show w.heap.size<b.heap.size by omega)).trans e1;have y2:=(f.cell (p:=⟨w.heap.size,2,none⟩) (show w.heap.size<b.heap.size by omega)).trans e2;have hpr:=(f.block bR (show bR<b.heap.size by omega)).trans X;have G2:=P8 L (HW.out.trans (f.mono O0));have GX:=P8 HX.out f;clear hcell L F
    go_wp2_with fail
    refine wp_region_held_drew (S:=(fun u=>u.cell? ⟨H,2,none⟩=some (.map (some bR))/\u.cell? ⟨w.heap.size,0,none⟩=some (.string x.key)/\u.cell? ⟨w.heap.size,1,none⟩=some (.slice a x.gs.length c)/\u.cell? ⟨w.heap.size,2,none⟩=some (.string x.out)/\u.heap[bR]?=some (.map A C))) Y2 ?_ fun hHeld=>?_
    · exact ⟨q2,y0,y1,y2,hpr⟩
    refine Y0 0 ?_;refine Y0 1 ?_;refine Y0 2 ?_;refine Y0 3 ?_;refine Y0 4 ?_;refine tq 5 hHeld ?_ (v:=?_) (hv:=?e)
    case e=>intro wq hSw;(try dsimp only at hSw);have hq:=HLR.out wq hSw.2.2.2.2;go_simp;try with_reducible rfl
    try simp only [qq]
    refine Y0 6 ?_;refine rq 7 fun K hK=>?_;go_simp;refine (a0n y x a2 a c2 c _ P hg G2 GX).mono ?_;rintro e u1 ⟨⟨bb,rfl,hbb⟩,hb1⟩
    go_wp2_with fail
    have m:=f.trans (hb1.mono (by show b.heap.size<=wr.heap.size;exact s.size));have p2:=(m.cell (p:=⟨H,2,none⟩) (show H<b.heap.size by omega)).trans f2;have p0:=(m.cell (p:=⟨w.heap.size,0,none⟩) (show w.heap.size<b.heap.size by omega)).trans e0;have p1:=(m.cell (p:=⟨w.heap.size,1,none⟩) (show w.heap.size<b.heap.size by omega)).trans e1;have p3:=(m.cell (p:=⟨w.heap.size,2,none⟩) (show w.heap.size<b.heap.size by omega)).trans e2;have pr:=(m.block bR (show bR<b.heap.size by omega)).trans X;clear hHeld;refine E8 hK ⟨p2,p0,p1,p3,pr⟩ fun hHeld=>?_;clear hK K hHeld;refine wdn ?_;cases bb
    · go_wp2;go_roundw
      case rel=>exact ⟨k+1,O0,by go_num,fun j r=>by
       rcases Q7 j k with h | h
       · exact HJ.out j h
       · obtain rfl:j=k:=O0;rw [O];exact fun e=>absurd (hbb.2 (HY.out.symm.trans e)) Xk,m⟩
      case measure=>simp [Go.RowKit.intOf];omega
    · go_wp2;go_ret;exact ⟨⟨true,rfl,fun _=>(HY.out.trans (by simpa using hbb))▸DN o,fun _=>rfl⟩,d.trans (m.mono O0)⟩
  · obtain rfl:k=(Kw rs x.key).length:=O0;go_wp2;go_ret;refine ⟨⟨false,rfl,fun h=>absurd h Xk,fun h=>?_⟩,d.trans (s.mono O0)⟩;obtain ⟨p,o,Y⟩:=QM h;obtain ⟨j,r,hjp⟩:=lW o (by rw [Y]);have:=HJ.out j r;rw [hjp] at this;exact absurd Y this
open Go.WideElems (Fit rd rg pl rd_val rd_key)
def tZ (p:BY×Int×ByteArray):Value:=.agg #[.string p.1,.int .i64 p.2.1,.string p.2.2]
open Classical in
noncomputable def MV (v:Value):Option (DataW Value×List MemPlace):=if ∃ p,v=tZ p then some (.held v,[]) else none
theorem qK {y:DataW Value×List MemPlace} (h:MV v=some y):(∃ p,v=tZ p)/\y=(.held v,[]):=by
 unfold MV at h;split at h
 · rename_i a;exact ⟨a,(w_ h).symm⟩
 · cases h
theorem jO {b:Nat} {f:List (ByteArray×Value)} (h:w.ownsMap prog 9 Ja b n (mapD f)) (hf:∀ p∈f,∃ q,p.2=tZ q):w.ownsMap prog 9 MV b n (mapD f):=by
 obtain ⟨es,clock,s,F,m,g⟩:=h;have l:∀ x∈es.toList,∀ z,Ja x.val=some z->MV x.val=some z:=fun x hx z c=>by
  obtain ⟨y,d⟩:=F.reads x hx;have hm:rg prog 9 Ja x∈(es.toList.map (rg prog 9 Ja)).foldr DataW.insert []:=mem_sorted.2 (sD hx);have t:f.map eS=(es.toList.map (rg prog 9 Ja)).foldr DataW.insert []:=by
   have:=g;unfold mapD at this;exact DataW.map.inj this
  rw [<- t] at hm;obtain ⟨p,r,e⟩:=Pm.1 hm;have A:rg prog 9 Ja x=y:=by unfold rg;rw [d];rfl
  obtain ⟨i,a,k⟩:=rd_val d;have j:i=(.held x.val,[]):=by unfold Ja at a;exact (Option.some.inj a).symm
  have v:DataW.held p.2=DataW.held x.val:=by
   have:=U6 Prod.snd (e.trans A);rw [k,j] at this;exact this
  have u:p.2=x.val:=by injection v
  obtain ⟨q,o⟩:=hf p r;unfold Ja at c;unfold MV;rw [X7 ⟨q,u▸o⟩];exact c
 have h1:=World.ownsMap_of_fit (R:=MV) s F l;rw [<- g] at h1;exact h1.mono m
theorem a2v (a b i ns:Nat) (g:DataW Value) (f:List (ByteArray×Value)) (w:World) (hd:w.ownsMap prog 9 Ja a i g) (y:w.ownsMap prog 9 Ja b ns (mapD f)) (hf:∀ p∈f,∃ q,p.2=tZ q) (R:a≠b) (hroom:i+Maps.size (mapD f)<=maxLen):
 Calls prog 215 #[.map (some a),.map (some b)] w fun e w'=>e=.returned (.tuple #[])/\w'.ownsMap prog 9 Ja a (i+Maps.size (mapD f)) (Lib.mergeD g (mapD f))/\w.grownBy w' (some a):=by
 have o:=jO y hf;generalize mapD f=d at*;have hbd:=hd.lt;have hbs:=o.lt;go_enter func215,ntmps215
 go_wp2_with (first
  | (at_range;refine wpList_range_own _ rfl _ 209 rfl 9 217 Dw underlying209 MV b ns _ rfl o ?_;intro w0 N F y)
  | go_in)
 go_frame
 go_loopw [8] (fun _ wr=>∃ (n:Lit->Bool) (l:Nat) (t:DataW Value),wr.ranges prog 9 MV b w.heap.size ns d n l/\l<=Maps.size d/\
  wr.ownsMap prog 9 Ja a (i+(Maps.size d - l)) t/\Merged t g d n/\w.grownBy wr (some a))
  (fun _ wr=>wr.rangeLeft b w.heap.size)
 case atStart=>
  exact ⟨_,_,g,N,v_ _,(hd.kept F X4).mono O0,merged_start g d,F.but _⟩
 case round=>
  obtain ⟨n,l,t,A,hcs,k,H,B⟩:=hrel
  go_wp2_with (first
   | (at_next;refine wpList_next_ranges _ rfl _ rfl 9 Dw MV id tZ (fun key _ _=>⟨key,rfl⟩) (fun v _ h=>(qK h).1) b w.heap.size ns _ _ _ rfl A ?_ ?_)
   | go_in)
  · intro W U;go_wp2
    go_end0
    subst W;have e:=merged_eq Dw.one H U (k.canon Dw) (hd.canonK Dw) (o.canonK Dw);subst e;exact ⟨rfl,by simpa using k,B⟩
  · intro x ca s cb kl m yp I Y r hlx hv X L S E hs1 V;have u:=(qK hv).2;have Q:=k.kept E (fun e=>by have:=w_ e;omega);have D:=nJ I (.cells #[vS ca,vI s,vS cb] 217) none;have P:=U0 (Q.alloc (.cells #[vS ca,vI s,vS cb] 217));have K:=U0 (L.kept D X4 X4);have J:Hid (Ja (.agg #[vS ca,vI s,vS cb])=some (m,[])):=by show Ja _=_;rw [show m=_ from U6 Prod.fst u];rfl
    simp only [tZ] at V r ⊢;clear u hv
    go_wp2_with (first
     | (at_mapUpdate;refine wpList_mapUpdate_own _ rfl _ _ _ 209 rfl 9 217 Dw underlying209 Ja a _ _ rfl P.out O0 _ _ _ rfl rfl r m [] J.out ?_;intro w2 O C;go_frame)
     | go_in)
    have z:=K.out.kept C (fun e=>R (w_ e).symm) (fun e=>by have:=w_ e;omega);go_roundw
    case rel=>
     exact ⟨_,Y,_,z,O0,O.mono O0,merged_step H k.isMap (Dw.key r) X,((B.andThen E (fun j c=>.inl (by cases c;exact v_ _))).andThen D (fun j c=>by cases c)).andThen C (fun j c=>.inr c)⟩
    case measure=>rw [z.left_eq,A.left_eq];exact S
