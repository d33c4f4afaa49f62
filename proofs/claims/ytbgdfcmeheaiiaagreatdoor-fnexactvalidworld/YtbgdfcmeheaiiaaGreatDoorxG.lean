import Derived.Test.YtbgdfcmeheaiiaaGreatDoorLX
set_option linter.unusedVariables false
set_option linter.unusedSimpArgs false
set_option maxHeartbeats 8000000
set_option maxRecDepth 100000
namespace Go.Proofs.YtbgdfcmeheaiiaaGreatDoor
open Proofs.Tryz Go.RowKit
theorem c162(x:M3)(w:World):
 Calls prog 162 #[.agg #[.string x.nm,.string x.tl,.string x.ar]] w λe w'=>e=.returned (.agg #[.string x.nm,.string x.tl,.string x.ar])/\Bw w w':=by
 go_in
 go_upto_region 2 with fail
 have H:=U0 (Za (w:=w) (ta:=100) (tr:=68) (ar:=[.string x.nm,.string x.tl,.string x.ar]) (zs:=[.string ⟨#[]⟩,.string ⟨#[]⟩,.string ⟨#[]⟩]));generalize ((w.alloc (.cells #[.string x.nm,.string x.tl,.string x.ar] 100)).alloc (.cells #[.string ⟨#[]⟩,.string ⟨#[]⟩,.string ⟨#[]⟩] 68)).alloc (.cells #[.string ⟨#[]⟩,.string ⟨#[]⟩,.string ⟨#[]⟩] 68)=V at*
 go_wp2_with(first|(refine G5 H.out.ca rfl _ _ rfl rfl rfl Y0 ?_)|(refine x9 H.out rfl 9 _ _ rfl (j:=0) (.string x.nm) rfl rfl rfl (X9 rfl) Y0 ?_;clear H;intro V H)|(refine x9 H.out rfl 9 _ _ rfl (j:=1) (.string x.tl) rfl rfl rfl (X9 rfl) Y0 ?_;clear H;intro V H)|(refine x9 H.out rfl 9 _ _ rfl (j:=2) (.string x.ar) rfl rfl rfl (X9 rfl) Y0 ?_;clear H;intro V H)|(refine Bj H.out rfl 68 _ rfl [.string x.nm,.string x.tl,.string x.ar] rfl rfl underlying68 rfl Y0 ?_)|(refine Ui H.out rfl 68 _ _ rfl [.string x.nm,.string x.tl,.string x.ar] rfl rfl rfl rfl Y0 ?_;clear H;intro z b hk a))
 exact o7 (I8 (P:=prog) (ty:=68) rfl _ z (w.heap.size+1) [.string x.nm,.string x.tl,.string x.ar] _ rfl b underlying68 rfl Y0) rfl ⟨rfl,a⟩
theorem a4m(x:T6)(w:World):
 Calls prog 163 #[.agg #[.bool x.over,.int .i64 x.cd,.string x.tx,.bool x.has,.string x.nm,.int .i64 x.st]] w λe w'=>e=.returned (.agg #[.bool x.over,.int .i64 x.cd,.string x.tx,.bool x.has,.string x.nm,.int .i64 x.st])/\Bw w w':=by
 go_in
 go_upto_region 2 with fail
 have H:=U0 (Za (w:=w) (ta:=104) (tr:=73) (ar:=[.bool x.over,.int .i64 x.cd,.string x.tx,.bool x.has,.string x.nm,.int .i64 x.st]) (zs:=[.bool false,.int .i64 0,.string ⟨#[]⟩,.bool false,.string ⟨#[]⟩,.int .i64 0]));generalize ((w.alloc (.cells #[.bool x.over,.int .i64 x.cd,.string x.tx,.bool x.has,.string x.nm,.int .i64 x.st] 104)).alloc (.cells #[.bool false,.int .i64 0,.string ⟨#[]⟩,.bool false,.string ⟨#[]⟩,.int .i64 0] 73)).alloc (.cells #[.bool false,.int .i64 0,.string ⟨#[]⟩,.bool false,.string ⟨#[]⟩,.int .i64 0] 73)=V at*
 go_wp2_with(first|(refine O8 H.out.ca rfl 102 _ rfl (j:=1) [.int .i64 x.cd,.string x.tx] rfl rfl underlying102 rfl Y0 ?_)|(refine G5 H.out.ca rfl _ _ rfl rfl rfl Y0 ?_)|(refine x9 H.out rfl 4 _ _ rfl (j:=0) (.bool x.over) rfl rfl rfl (X9 rfl) Y0 ?_;clear H;intro V H))
 refine(lT x.cd x.tx V).mono ?_;rintro e V1⟨rfl,a⟩
 replace H:=U0 (H.out.call a (Q:=λ_=>True) (λ_ _ _=>trivial))
 clear a
 go_wp2_with(first|(refine G5 H.out.ca rfl _ _ rfl rfl rfl Y0 ?_)|(refine Wj H.out rfl 71 _ _ rfl (j:=1) [.int .i64 x.cd,.string x.tx] rfl rfl (X9 rfl) rfl Y0 ?_;clear H;intro V H)|(refine x9 H.out rfl 4 _ _ rfl (j:=3) (.bool x.has) rfl rfl rfl (X9 rfl) Y0 ?_;clear H;intro V H)|(refine x9 H.out rfl 9 _ _ rfl (j:=4) (.string x.nm) rfl rfl rfl (X9 rfl) Y0 ?_;clear H;intro V H)|(refine x9 H.out rfl 3 _ _ rfl (j:=5) (.int .i64 x.st) rfl rfl rfl (X9 rfl) Y0 ?_;clear H;intro V H)|(refine Bj H.out rfl 73 _ rfl [.bool x.over,.int .i64 x.cd,.string x.tx,.bool x.has,.string x.nm,.int .i64 x.st] rfl rfl underlying73 rfl Y0 ?_)|(refine Ui H.out rfl 73 _ _ rfl [.bool x.over,.int .i64 x.cd,.string x.tx,.bool x.has,.string x.nm,.int .i64 x.st] rfl rfl rfl rfl Y0 ?_;clear H;intro z b hk a))
 exact o7 (I8 (P:=prog) (ty:=73) rfl _ z (w.heap.size+1) [.bool x.over,.int .i64 x.cd,.string x.tx,.bool x.has,.string x.nm,.int .i64 x.st] _ rfl b underlying73 rfl Y0) rfl ⟨rfl,a⟩
theorem c109(x:mr)(d:OA)(g:Nat)(w:World)(hl:x.ls.length<=1048576)(i:X6 w d x.ls):
 Calls prog 109 #[.agg #[.int .i64 x.kd,.int .i64 x.tw,.int .i64 x.fr,.int .i64 x.ep,.int .i64 x.ed,.string x.km.nm,.string x.km.tl,.string x.km.ar,.slice d x.ls.length g,.int .i64 x.ct,.bool x.tn.over,.int .i64 x.tn.cd,.string x.tn.tx,.bool x.tn.has,.string x.tn.nm,.int .i64 x.tn.st]] w λe w'=>(∃v,e=.returned (.agg #[.int .i64 x.kd,.int .i64 x.tw,.int .i64 x.fr,.int .i64 x.ep,.int .i64 x.ed,.string x.km.nm,.string x.km.tl,.string x.km.ar,v,.int .i64 x.ct,.bool x.tn.over,.int .i64 x.tn.cd,.string x.tn.tx,.bool x.tn.has,.string x.tn.nm,.int .i64 x.tn.st])/\Kp w.heap.size w' (λu=>dK X6 u x.ls v))/\Bw w w':=by
 have l:=U0 i;clear i
 go_in
 go_upto_region 2 with fail
 have H:=U0 (Za (w:=w) (ta:=106) (tr:=75) (ar:=[.int .i64 x.kd,.int .i64 x.tw,.int .i64 x.fr,.int .i64 x.ep,.int .i64 x.ed,.string x.km.nm,.string x.km.tl,.string x.km.ar,.slice d x.ls.length g,.int .i64 x.ct,.bool x.tn.over,.int .i64 x.tn.cd,.string x.tn.tx,.bool x.tn.has,.string x.tn.nm,.int .i64 x.tn.st]) (zs:=[.int .i64 0,.int .i64 0,.int .i64 0,.int .i64 0,.int .i64 0,.string ⟨#[]⟩,.string ⟨#[]⟩,.string ⟨#[]⟩,.slice none 0 0,.int .i64 0,.bool false,.int .i64 0,.string ⟨#[]⟩,.bool false,.string ⟨#[]⟩,.int .i64 0]));generalize ((w.alloc (.cells #[.int .i64 x.kd,.int .i64 x.tw,.int .i64 x.fr,.int .i64 x.ep,.int .i64 x.ed,.string x.km.nm,.string x.km.tl,.string x.km.ar,.slice d x.ls.length g,.int .i64 x.ct,.bool x.tn.over,.int .i64 x.tn.cd,.string x.tn.tx,.bool x.tn.has,.string x.tn.nm,.int .i64 x.tn.st] 106)).alloc (.cells #[.int .i64 0,.int .i64 0,.int .i64 0,.int .i64 0,.int .i64 0,.string ⟨#[]⟩,.string ⟨#[]⟩,.string ⟨#[]⟩,.slice none 0 0,.int .i64 0,.bool false,.int .i64 0,.string ⟨#[]⟩,.bool false,.string ⟨#[]⟩,.int .i64 0] 75)).alloc (.cells #[.int .i64 0,.int .i64 0,.int .i64 0,.int .i64 0,.int .i64 0,.string ⟨#[]⟩,.string ⟨#[]⟩,.string ⟨#[]⟩,.slice none 0 0,.int .i64 0,.bool false,.int .i64 0,.string ⟨#[]⟩,.bool false,.string ⟨#[]⟩,.int .i64 0] 75)=V at*
 go_wp2_with(first|(refine O8 H.out.ca rfl 100 _ rfl (j:=5) [.string x.km.nm,.string x.km.tl,.string x.km.ar] rfl rfl underlying100 rfl Y0 ?_)|(refine G5 H.out.ca rfl _ _ rfl rfl rfl Y0 ?_)|(refine x9 H.out rfl 3 _ _ rfl (j:=0) (.int .i64 x.kd) rfl rfl rfl (X9 rfl) Y0 ?_;clear H;intro V H)|(refine x9 H.out rfl 3 _ _ rfl (j:=1) (.int .i64 x.tw) rfl rfl rfl (X9 rfl) Y0 ?_;clear H;intro V H)|(refine x9 H.out rfl 3 _ _ rfl (j:=2) (.int .i64 x.fr) rfl rfl rfl (X9 rfl) Y0 ?_;clear H;intro V H)|(refine x9 H.out rfl 3 _ _ rfl (j:=3) (.int .i64 x.ep) rfl rfl rfl (X9 rfl) Y0 ?_;clear H;intro V H)|(refine x9 H.out rfl 3 _ _ rfl (j:=4) (.int .i64 x.ed) rfl rfl rfl (X9 rfl) Y0 ?_;clear H;intro V H))
 refine(c162 x.km V).mono ?_;rintro e V1⟨rfl,a⟩
 replace H:=U0 (H.out.call a (Q:=λ_=>True) (λ_ _ _=>trivial))
 clear a
 go_wp2_with(first|(refine G5 H.out.ca rfl _ _ rfl rfl rfl Y0 ?_)|(refine Wj H.out rfl 68 _ _ rfl (j:=5) [.string x.km.nm,.string x.km.tl,.string x.km.ar] rfl rfl (X9 rfl) rfl Y0 ?_;clear H;intro V H))
 refine(a0q d g x.ls V hl (XE (Z4 l.out H.out.bel))).mono ?_;rintro e V1⟨⟨_,rfl,c,b,rfl,_,f⟩,a⟩
 replace H:=U0 (H.out.call a (f.imp λu h=>(⟨_,_,rfl,TD h.1⟩:dK X6 u x.ls (.slice c x.ls.length b))))
 clear a f
 go_wp2_with(first|(refine O8 H.out.ca rfl 104 _ rfl (j:=10) [.bool x.tn.over,.int .i64 x.tn.cd,.string x.tn.tx,.bool x.tn.has,.string x.tn.nm,.int .i64 x.tn.st] rfl rfl underlying104 rfl Y0 ?_)|(refine G5 H.out.ca rfl _ _ rfl rfl rfl Y0 ?_)|(refine x9 H.out rfl 69 _ _ rfl (j:=8) (.slice c x.ls.length b) rfl rfl rfl (X9 rfl) Y0 ?_;clear H;intro V H)|(refine x9 H.out rfl 3 _ _ rfl (j:=9) (.int .i64 x.ct) rfl rfl rfl (X9 rfl) Y0 ?_;clear H;intro V H))
 refine(a4m x.tn V).mono ?_;rintro e V1⟨rfl,a⟩
 replace H:=U0 (H.out.call a (Q:=λ_=>True) (λ_ _ _=>trivial))
 clear a
 go_wp2_with(first|(refine G5 H.out.ca rfl _ _ rfl rfl rfl Y0 ?_)|(refine Wj H.out rfl 73 _ _ rfl (j:=10) [.bool x.tn.over,.int .i64 x.tn.cd,.string x.tn.tx,.bool x.tn.has,.string x.tn.nm,.int .i64 x.tn.st] rfl rfl (X9 rfl) rfl Y0 ?_;clear H;intro V H)|(refine Bj H.out rfl 75 _ rfl [.int .i64 x.kd,.int .i64 x.tw,.int .i64 x.fr,.int .i64 x.ep,.int .i64 x.ed,.string x.km.nm,.string x.km.tl,.string x.km.ar,.slice c x.ls.length b,.int .i64 x.ct,.bool x.tn.over,.int .i64 x.tn.cd,.string x.tn.tx,.bool x.tn.has,.string x.tn.nm,.int .i64 x.tn.st] rfl rfl underlying75 rfl Y0 ?_)|(refine Ui H.out rfl 75 _ _ rfl [.int .i64 x.kd,.int .i64 x.tw,.int .i64 x.fr,.int .i64 x.ep,.int .i64 x.ed,.string x.km.nm,.string x.km.tl,.string x.km.ar,.slice c x.ls.length b,.int .i64 x.ct,.bool x.tn.over,.int .i64 x.tn.cd,.string x.tn.tx,.bool x.tn.has,.string x.tn.nm,.int .i64 x.tn.st] rfl rfl rfl rfl Y0 ?_;clear H;intro z k f a))
 exact o7 (I8 (P:=prog) (ty:=75) rfl _ z (w.heap.size+1) [.int .i64 x.kd,.int .i64 x.tw,.int .i64 x.fr,.int .i64 x.ep,.int .i64 x.ed,.string x.km.nm,.string x.km.tl,.string x.km.ar,.slice c x.ls.length b,.int .i64 x.ct,.bool x.tn.over,.int .i64 x.tn.cd,.string x.tn.tx,.bool x.tn.has,.string x.tn.nm,.int .i64 x.tn.st] _ rfl k underlying75 rfl Y0) rfl ⟨⟨_,rfl,f.imp λu h=>h.1.2⟩,a⟩
theorem c57(x:Yz)(a:OA)(c:Nat)(w:World)(hl:x.of.ls.length<=1048576)(i:X6 w a x.of.ls):
 Calls prog 57 #[.agg #[.int .i64 x.no,.bool x.up,.bool x.has,.int .i64 x.of.kd,.int .i64 x.of.tw,.int .i64 x.of.fr,.int .i64 x.of.ep,.int .i64 x.of.ed,.string x.of.km.nm,.string x.of.km.tl,.string x.of.km.ar,.slice a x.of.ls.length c,.int .i64 x.of.ct,.bool x.of.tn.over,.int .i64 x.of.tn.cd,.string x.of.tn.tx,.bool x.of.tn.has,.string x.of.tn.nm,.int .i64 x.of.tn.st]] w λe w'=>(∃q,e=.returned (.agg (eF (x,q)).toArray)/\Kp w.heap.size w' (λu=>wkR u (x,q)))/\Bw w w':=by
 have l:=U0 i;clear i
 go_in
 go_upto_region 2 with fail
 have H:=U0 (Za (w:=w) (ta:=108) (tr:=77) (ar:=[.int .i64 x.no,.bool x.up,.bool x.has,.int .i64 x.of.kd,.int .i64 x.of.tw,.int .i64 x.of.fr,.int .i64 x.of.ep,.int .i64 x.of.ed,.string x.of.km.nm,.string x.of.km.tl,.string x.of.km.ar,.slice a x.of.ls.length c,.int .i64 x.of.ct,.bool x.of.tn.over,.int .i64 x.of.tn.cd,.string x.of.tn.tx,.bool x.of.tn.has,.string x.of.tn.nm,.int .i64 x.of.tn.st]) (zs:=[.int .i64 0,.bool false,.bool false,.int .i64 0,.int .i64 0,.int .i64 0,.int .i64 0,.int .i64 0,.string ⟨#[]⟩,.string ⟨#[]⟩,.string ⟨#[]⟩,.slice none 0 0,.int .i64 0,.bool false,.int .i64 0,.string ⟨#[]⟩,.bool false,.string ⟨#[]⟩,.int .i64 0]));generalize ((w.alloc (.cells #[.int .i64 x.no,.bool x.up,.bool x.has,.int .i64 x.of.kd,.int .i64 x.of.tw,.int .i64 x.of.fr,.int .i64 x.of.ep,.int .i64 x.of.ed,.string x.of.km.nm,.string x.of.km.tl,.string x.of.km.ar,.slice a x.of.ls.length c,.int .i64 x.of.ct,.bool x.of.tn.over,.int .i64 x.of.tn.cd,.string x.of.tn.tx,.bool x.of.tn.has,.string x.of.tn.nm,.int .i64 x.of.tn.st] 108)).alloc (.cells #[.int .i64 0,.bool false,.bool false,.int .i64 0,.int .i64 0,.int .i64 0,.int .i64 0,.int .i64 0,.string ⟨#[]⟩,.string ⟨#[]⟩,.string ⟨#[]⟩,.slice none 0 0,.int .i64 0,.bool false,.int .i64 0,.string ⟨#[]⟩,.bool false,.string ⟨#[]⟩,.int .i64 0] 77)).alloc (.cells #[.int .i64 0,.bool false,.bool false,.int .i64 0,.int .i64 0,.int .i64 0,.int .i64 0,.int .i64 0,.string ⟨#[]⟩,.string ⟨#[]⟩,.string ⟨#[]⟩,.slice none 0 0,.int .i64 0,.bool false,.int .i64 0,.string ⟨#[]⟩,.bool false,.string ⟨#[]⟩,.int .i64 0] 77)=V at*
 go_wp2_with(first|(refine O8 H.out.ca rfl 106 _ rfl (j:=3) [.int .i64 x.of.kd,.int .i64 x.of.tw,.int .i64 x.of.fr,.int .i64 x.of.ep,.int .i64 x.of.ed,.string x.of.km.nm,.string x.of.km.tl,.string x.of.km.ar,.slice a x.of.ls.length c,.int .i64 x.of.ct,.bool x.of.tn.over,.int .i64 x.of.tn.cd,.string x.of.tn.tx,.bool x.of.tn.has,.string x.of.tn.nm,.int .i64 x.of.tn.st] rfl rfl underlying106 rfl Y0 ?_)|(refine G5 H.out.ca rfl _ _ rfl rfl rfl Y0 ?_)|(refine x9 H.out rfl 3 _ _ rfl (j:=0) (.int .i64 x.no) rfl rfl rfl (X9 rfl) Y0 ?_;clear H;intro V H)|(refine x9 H.out rfl 4 _ _ rfl (j:=1) (.bool x.up) rfl rfl rfl (X9 rfl) Y0 ?_;clear H;intro V H)|(refine x9 H.out rfl 4 _ _ rfl (j:=2) (.bool x.has) rfl rfl rfl (X9 rfl) Y0 ?_;clear H;intro V H))
 refine(c109 x.of a c V hl (Z4 l.out H.out.bel)).mono ?_;rintro e V1⟨⟨_,rfl,b⟩,d⟩;obtain⟨g,f,rfl,_⟩:=b.now
 replace H:=U0 (H.out.call d b)
 clear d b
 go_wp2_with(first|(refine G5 H.out.ca rfl _ _ rfl rfl rfl Y0 ?_)|(refine Wj H.out rfl 75 _ _ rfl (j:=3) [.int .i64 x.of.kd,.int .i64 x.of.tw,.int .i64 x.of.fr,.int .i64 x.of.ep,.int .i64 x.of.ed,.string x.of.km.nm,.string x.of.km.tl,.string x.of.km.ar,.slice g x.of.ls.length f,.int .i64 x.of.ct,.bool x.of.tn.over,.int .i64 x.of.tn.cd,.string x.of.tn.tx,.bool x.of.tn.has,.string x.of.tn.nm,.int .i64 x.of.tn.st] rfl rfl (X9 rfl) rfl Y0 ?_;clear H;intro V H)|(refine Bj H.out rfl 77 _ rfl [.int .i64 x.no,.bool x.up,.bool x.has,.int .i64 x.of.kd,.int .i64 x.of.tw,.int .i64 x.of.fr,.int .i64 x.of.ep,.int .i64 x.of.ed,.string x.of.km.nm,.string x.of.km.tl,.string x.of.km.ar,.slice g x.of.ls.length f,.int .i64 x.of.ct,.bool x.of.tn.over,.int .i64 x.of.tn.cd,.string x.of.tn.tx,.bool x.of.tn.has,.string x.of.tn.nm,.int .i64 x.of.tn.st] rfl rfl underlying77 rfl Y0 ?_)|(refine Ui H.out rfl 77 _ _ rfl [.int .i64 x.no,.bool x.up,.bool x.has,.int .i64 x.of.kd,.int .i64 x.of.tw,.int .i64 x.of.fr,.int .i64 x.of.ep,.int .i64 x.of.ed,.string x.of.km.nm,.string x.of.km.tl,.string x.of.km.ar,.slice g x.of.ls.length f,.int .i64 x.of.ct,.bool x.of.tn.over,.int .i64 x.of.tn.cd,.string x.of.tn.tx,.bool x.of.tn.has,.string x.of.tn.nm,.int .i64 x.of.tn.st] rfl rfl rfl rfl Y0 ?_;clear H;intro z k b d))
 exact o7 (I8 (P:=prog) (ty:=77) rfl _ z (w.heap.size+1) [.int .i64 x.no,.bool x.up,.bool x.has,.int .i64 x.of.kd,.int .i64 x.of.tw,.int .i64 x.of.fr,.int .i64 x.of.ep,.int .i64 x.of.ed,.string x.of.km.nm,.string x.of.km.tl,.string x.of.km.ar,.slice g x.of.ls.length f,.int .i64 x.of.ct,.bool x.of.tn.over,.int .i64 x.of.tn.cd,.string x.of.tn.tx,.bool x.of.tn.has,.string x.of.tn.nm,.int .i64 x.of.tn.st] _ rfl k underlying77 rfl Y0) rfl ⟨⟨_,rfl,b.imp λu h=>h.2⟩,d⟩
theorem c58(x:Pc)(w:World):
 Calls prog 58 #[.agg #[.int .i64 x.tw,.string x.se,.string x.by_]] w λe w'=>e=.returned (.agg #[.int .i64 x.tw,.string x.se,.string x.by_])/\Bw w w':=by
 go_in
 go_upto_region 2 with fail
 have H:=U0 (Za (w:=w) (ta:=110) (tr:=80) (ar:=[.int .i64 x.tw,.string x.se,.string x.by_]) (zs:=[.int .i64 0,.string ⟨#[]⟩,.string ⟨#[]⟩]));generalize ((w.alloc (.cells #[.int .i64 x.tw,.string x.se,.string x.by_] 110)).alloc (.cells #[.int .i64 0,.string ⟨#[]⟩,.string ⟨#[]⟩] 80)).alloc (.cells #[.int .i64 0,.string ⟨#[]⟩,.string ⟨#[]⟩] 80)=V at*
 go_wp2_with(first|(refine G5 H.out.ca rfl _ _ rfl rfl rfl Y0 ?_)|(refine x9 H.out rfl 3 _ _ rfl (j:=0) (.int .i64 x.tw) rfl rfl rfl (X9 rfl) Y0 ?_;clear H;intro V H)|(refine x9 H.out rfl 9 _ _ rfl (j:=1) (.string x.se) rfl rfl rfl (X9 rfl) Y0 ?_;clear H;intro V H)|(refine x9 H.out rfl 9 _ _ rfl (j:=2) (.string x.by_) rfl rfl rfl (X9 rfl) Y0 ?_;clear H;intro V H)|(refine Bj H.out rfl 80 _ rfl [.int .i64 x.tw,.string x.se,.string x.by_] rfl rfl underlying80 rfl Y0 ?_)|(refine Ui H.out rfl 80 _ _ rfl [.int .i64 x.tw,.string x.se,.string x.by_] rfl rfl rfl rfl Y0 ?_;clear H;intro z b hk a))
 exact o7 (I8 (P:=prog) (ty:=80) rfl _ z (w.heap.size+1) [.int .i64 x.tw,.string x.se,.string x.by_] _ rfl b underlying80 rfl Y0) rfl ⟨rfl,a⟩
theorem c164(x:Dd)(d:OA)(g:Nat)(w:World)(hl:x.ls.length<=1048576)(i:X6 w d x.ls):
 Calls prog 164 #[.agg #[.string x.nm,.bool x.md,.string x.km.nm,.string x.km.tl,.string x.km.ar,.slice d x.ls.length g,.int .i64 x.cd,.string x.tx]] w λe w'=>(∃q,e=.returned (.agg (CO (x,q)).toArray)/\Kp w.heap.size w' (λu=>ddR u (x,q)))/\Bw w w':=by
 have l:=U0 i;clear i
 go_in
 go_upto_region 2 with fail
 have H:=U0 (Za (w:=w) (ta:=241) (tr:=265) (ar:=[.string x.nm,.bool x.md,.string x.km.nm,.string x.km.tl,.string x.km.ar,.slice d x.ls.length g,.int .i64 x.cd,.string x.tx]) (zs:=[.string ⟨#[]⟩,.bool false,.string ⟨#[]⟩,.string ⟨#[]⟩,.string ⟨#[]⟩,.slice none 0 0,.int .i64 0,.string ⟨#[]⟩]));generalize ((w.alloc (.cells #[.string x.nm,.bool x.md,.string x.km.nm,.string x.km.tl,.string x.km.ar,.slice d x.ls.length g,.int .i64 x.cd,.string x.tx] 241)).alloc (.cells #[.string ⟨#[]⟩,.bool false,.string ⟨#[]⟩,.string ⟨#[]⟩,.string ⟨#[]⟩,.slice none 0 0,.int .i64 0,.string ⟨#[]⟩] 265)).alloc (.cells #[.string ⟨#[]⟩,.bool false,.string ⟨#[]⟩,.string ⟨#[]⟩,.string ⟨#[]⟩,.slice none 0 0,.int .i64 0,.string ⟨#[]⟩] 265)=V at*
 go_wp2_with(first|(refine O8 H.out.ca rfl 100 _ rfl (j:=2) [.string x.km.nm,.string x.km.tl,.string x.km.ar] rfl rfl underlying100 rfl Y0 ?_)|(refine G5 H.out.ca rfl _ _ rfl rfl rfl Y0 ?_)|(refine x9 H.out rfl 9 _ _ rfl (j:=0) (.string x.nm) rfl rfl rfl (X9 rfl) Y0 ?_;clear H;intro V H)|(refine x9 H.out rfl 4 _ _ rfl (j:=1) (.bool x.md) rfl rfl rfl (X9 rfl) Y0 ?_;clear H;intro V H))
 refine(c162 x.km V).mono ?_;rintro e V1⟨rfl,a⟩
 replace H:=U0 (H.out.call a (Q:=λ_=>True) (λ_ _ _=>trivial))
 clear a
 go_wp2_with(first|(refine G5 H.out.ca rfl _ _ rfl rfl rfl Y0 ?_)|(refine Wj H.out rfl 68 _ _ rfl (j:=2) [.string x.km.nm,.string x.km.tl,.string x.km.ar] rfl rfl (X9 rfl) rfl Y0 ?_;clear H;intro V H))
 refine(a0q d g x.ls V hl (XE (Z4 l.out H.out.bel))).mono ?_;rintro e V1⟨⟨_,rfl,c,b,rfl,_,f⟩,a⟩
 replace H:=U0 (H.out.call a (f.imp λu h=>(⟨_,_,rfl,TD h.1⟩:dK X6 u x.ls (.slice c x.ls.length b))))
 clear a f
 go_wp2_with(first|(refine O8 H.out.ca rfl 102 _ rfl (j:=6) [.int .i64 x.cd,.string x.tx] rfl rfl underlying102 rfl Y0 ?_)|(refine G5 H.out.ca rfl _ _ rfl rfl rfl Y0 ?_)|(refine x9 H.out rfl 69 _ _ rfl (j:=5) (.slice c x.ls.length b) rfl rfl rfl (X9 rfl) Y0 ?_;clear H;intro V H))
 refine(lT x.cd x.tx V).mono ?_;rintro e V1⟨rfl,a⟩
 replace H:=U0 (H.out.call a (Q:=λ_=>True) (λ_ _ _=>trivial))
 clear a
 go_wp2_with(first|(refine G5 H.out.ca rfl _ _ rfl rfl rfl Y0 ?_)|(refine Wj H.out rfl 71 _ _ rfl (j:=6) [.int .i64 x.cd,.string x.tx] rfl rfl (X9 rfl) rfl Y0 ?_;clear H;intro V H)|(refine Bj H.out rfl 265 _ rfl [.string x.nm,.bool x.md,.string x.km.nm,.string x.km.tl,.string x.km.ar,.slice c x.ls.length b,.int .i64 x.cd,.string x.tx] rfl rfl underlying265 rfl Y0 ?_)|(refine Ui H.out rfl 265 _ _ rfl [.string x.nm,.bool x.md,.string x.km.nm,.string x.km.tl,.string x.km.ar,.slice c x.ls.length b,.int .i64 x.cd,.string x.tx] rfl rfl rfl rfl Y0 ?_;clear H;intro z k f a))
 exact o7 (I8 (P:=prog) (ty:=265) rfl _ z (w.heap.size+1) [.string x.nm,.bool x.md,.string x.km.nm,.string x.km.tl,.string x.km.ar,.slice c x.ls.length b,.int .i64 x.cd,.string x.tx] _ rfl k underlying265 rfl Y0) rfl ⟨⟨_,rfl,f.imp λu h=>h.1.2⟩,a⟩
theorem c17(a:OA)(O:Nat)(is:List Yz)(w:World)(hl:is.length<=1048576)(v:∀i,(is.getD i Vf).of.ls.length<=1048576)(A:a5g w a is):
 Calls prog 17 #[.slice a is.length O] w λe w'=>(∃g,e=.returned (.slice (some ⟨g,0,none⟩) is.length is.length)/\Kp w.heap.size w' (λu=>a5g u (some ⟨g,0,none⟩) is))/\Bw w w':=by
 obtain⟨b,off,hc⟩:=J8 A;have X:=U0 hc;have U:=U0 v;clear hc A v;have hmk:=Xm (z:=[.int .i64 0,.bool false,.bool false,.int .i64 0,.int .i64 0,.int .i64 0,.int .i64 0,.int .i64 0,.string ⟨#[]⟩,.string ⟨#[]⟩,.string ⟨#[]⟩,.slice none 0 0,.int .i64 0,.bool false,.int .i64 0,.string ⟨#[]⟩,.bool false,.string ⟨#[]⟩,.int .i64 0]) underlying54 (show(prog.info? 77).map (λi=>(i.zero,i.size,i.bytes))=some (some (.agg #[.int .i64 0,.bool false,.bool false,.int .i64 0,.int .i64 0,.int .i64 0,.int .i64 0,.int .i64 0,.string ⟨#[]⟩,.string ⟨#[]⟩,.string ⟨#[]⟩,.slice none 0 0,.int .i64 0,.bool false,.int .i64 0,.string ⟨#[]⟩,.bool false,.string ⟨#[]⟩,.int .i64 0]),19,200) from Y0) rfl rfl J6 hl
 go_in
 go_wp2;go_loopw[4] (λi wr=>∃(k:Nat)(ps:List (Yz×Value)),k<=is.length/\i=.int .i64 k/\Below w.heap.size w wr/\Hid (ps.map Prod.fst=is.take k)/\Hid (Cl wr w.heap.size 77 (ps.flatMap eF++zs [.int .i64 0,.bool false,.bool false,.int .i64 0,.int .i64 0,.int .i64 0,.int .i64 0,.int .i64 0,.string ⟨#[]⟩,.string ⟨#[]⟩,.string ⟨#[]⟩,.slice none 0 0,.int .i64 0,.bool false,.int .i64 0,.string ⟨#[]⟩,.bool false,.string ⟨#[]⟩,.int .i64 0] (is.length-k)))/\Hid (∀q∈ps,Kp (w.heap.size+1) wr (λu=>wkR u q))) (λi _=>is.length-(RowKit.intOf i).toNat);exact⟨0,[],I4 _,rfl,P6,rfl,U3 _ _ _,λp c=>absurd c Vm⟩;obtain⟨k,ps,hk,rfl,n,c,hc,C⟩:=hrel;by_cases l:k<is.length;rotate_left
 ·obtain rfl:k=is.length:=O0;have hd:=U0 ((DI (d:=Vf) (f:=eF) (R:=wkR) (m:=19) (λ_=>rfl) c.out hc.out C.out).low (b':=w.heap.size) Y8);go_wp2;go_ret;exact⟨⟨_,rfl,hd.out⟩,n⟩
 obtain⟨ha,K,y⟩:=X.out.resolve_left (λh=>by rw[h]at l;exact absurd l (U7 _));subst ha;obtain⟨p0,F,D⟩:=y k l;have GB:=U0 (F.below K n);have J:=U.out k;have t:=U0 (SE (P:=Value) (d:=Vf) (z:=[.int .i64 0,.bool false,.bool false,.int .i64 0,.int .i64 0,.int .i64 0,.int .i64 0,.int .i64 0,.string ⟨#[]⟩,.string ⟨#[]⟩,.string ⟨#[]⟩,.slice none 0 0,.int .i64 0,.bool false,.int .i64 0,.string ⟨#[]⟩,.bool false,.string ⟨#[]⟩,.int .i64 0]) (f:=eF) (m:=19) (λ_=>rfl) rfl c.out l);generalize is.getD k Vf=x at*;have Z:=U0 ((Zn _ _ _ D n));clear y F D;obtain⟨Q,N,e,E⟩:=Z.out;dsimp only at e E;subst e
 go_wp2_with(refine b_ rfl (I7 108 _ rfl (B:=b) (j:=off+k*19) (cs:=_) rfl GB.out underlying108 rfl Y0) ?_)
 refine(c57 x Q N wr J E).mono ?_;rintro e I⟨⟨q,rfl,hv⟩,r⟩;have L:=P5 n r;have W:=U0 (hc.out.below r hc.out.lt);have S:=U0 (hv.low (b':=w.heap.size+1) (by have:=hc.out.lt;omega));have V:Hid (∀q∈ps,Kp (w.heap.size+1) I (λu=>wkR u q)):=λp c=>(C.out p c).below r;have Y:Hid (∀u∈eF (x,q),u.oneCell'=true):=by
  obtain⟨_,_,e,_⟩:=hv.now;dsimp only at e;subst e;exact A8 rfl
 clear hv
 go_wp2_with(refine N8 rfl 77 _ _ rfl (B:=w.heap.size) (j:=k*19) rfl (vs:=eF (x,q)) rfl W.out (t.out q).2.1 Y.out Y0 ?_;intro z s o;rw[(t.out q).2.2]at s;have CZ:=U0 s;have bz:=L.trans (o.below Y8);have H:=U0 o;clear s o)
 go_roundw
 ·refine⟨k+1,ps++[(x,q)],O0,by go_num,bz,(t.out q).1,CZ,λp c=>?_⟩;rcases Cf.1 c with h|h
  ·exact(V.out p h).on H.out O0
  rw[jo.1 h];exact S.out.on H.out O0
 exact P9
theorem a4L(a:OA)(O:Nat)(is:List Dd)(w:World)(hl:is.length<=1048576)(v:∀i,(is.getD i IB).ls.length<=1048576)(A:a5f w a is):
 Calls prog 111 #[.slice a is.length O] w λe w'=>(∃g,e=.returned (.slice (some ⟨g,0,none⟩) is.length is.length)/\Kp w.heap.size w' (λu=>a5f u (some ⟨g,0,none⟩) is))/\Bw w w':=by
 obtain⟨b,off,hc⟩:=J8 A;have X:=U0 hc;have U:=U0 v;clear hc A v;have hmk:=Xm (z:=[.string ⟨#[]⟩,.bool false,.string ⟨#[]⟩,.string ⟨#[]⟩,.string ⟨#[]⟩,.slice none 0 0,.int .i64 0,.string ⟨#[]⟩]) underlying134 (show(prog.info? 265).map (λi=>(i.zero,i.size,i.bytes))=some (some (.agg #[.string ⟨#[]⟩,.bool false,.string ⟨#[]⟩,.string ⟨#[]⟩,.string ⟨#[]⟩,.slice none 0 0,.int .i64 0,.string ⟨#[]⟩]),8,120) from Y0) rfl rfl J6 hl
 go_in
 go_wp2;go_loopw[4] (λi wr=>∃(k:Nat)(ps:List (Dd×Value)),k<=is.length/\i=.int .i64 k/\Below w.heap.size w wr/\Hid (ps.map Prod.fst=is.take k)/\Hid (Cl wr w.heap.size 265 (ps.flatMap CO++zs [.string ⟨#[]⟩,.bool false,.string ⟨#[]⟩,.string ⟨#[]⟩,.string ⟨#[]⟩,.slice none 0 0,.int .i64 0,.string ⟨#[]⟩] (is.length-k)))/\Hid (∀q∈ps,Kp (w.heap.size+1) wr (λu=>ddR u q))) (λi _=>is.length-(RowKit.intOf i).toNat);exact⟨0,[],I4 _,rfl,P6,rfl,U3 _ _ _,λp c=>absurd c Vm⟩;obtain⟨k,ps,hk,rfl,n,c,hc,C⟩:=hrel;by_cases l:k<is.length;rotate_left
 ·obtain rfl:k=is.length:=O0;have hd:=U0 ((DI (d:=IB) (f:=CO) (R:=ddR) (m:=8) (λ_=>rfl) c.out hc.out C.out).low (b':=w.heap.size) Y8);go_wp2;go_ret;exact⟨⟨_,rfl,hd.out⟩,n⟩
 obtain⟨ha,K,y⟩:=X.out.resolve_left (λh=>by rw[h]at l;exact absurd l (U7 _));subst ha;obtain⟨p0,F,D⟩:=y k l;have GB:=U0 (F.below K n);have J:=U.out k;have t:=U0 (SE (P:=Value) (d:=IB) (z:=[.string ⟨#[]⟩,.bool false,.string ⟨#[]⟩,.string ⟨#[]⟩,.string ⟨#[]⟩,.slice none 0 0,.int .i64 0,.string ⟨#[]⟩]) (f:=CO) (m:=8) (λ_=>rfl) rfl c.out l);generalize is.getD k IB=x at*;have Z:=U0 ((Ot _ _ _ D n));clear y F D;obtain⟨Q,N,e,E⟩:=Z.out;dsimp only at e E;subst e
 go_wp2_with(refine b_ rfl (I7 241 _ rfl (B:=b) (j:=off+k*8) (cs:=_) rfl GB.out underlying241 rfl Y0) ?_)
 refine(c164 x Q N wr J E).mono ?_;rintro e I⟨⟨q,rfl,hv⟩,r⟩;have L:=P5 n r;have W:=U0 (hc.out.below r hc.out.lt);have S:=U0 (hv.low (b':=w.heap.size+1) (by have:=hc.out.lt;omega));have V:Hid (∀q∈ps,Kp (w.heap.size+1) I (λu=>ddR u q)):=λp c=>(C.out p c).below r;have Y:Hid (∀u∈CO (x,q),u.oneCell'=true):=by
  obtain⟨_,_,e,_⟩:=hv.now;dsimp only at e;subst e;exact A8 rfl
 clear hv
 go_wp2_with(refine N8 rfl 265 _ _ rfl (B:=w.heap.size) (j:=k*8) rfl (vs:=CO (x,q)) rfl W.out (t.out q).2.1 Y.out Y0 ?_;intro z s o;rw[(t.out q).2.2]at s;have CZ:=U0 s;have bz:=L.trans (o.below Y8);have H:=U0 o;clear s o)
 go_roundw
 ·refine⟨k+1,ps++[(x,q)],O0,by go_num,bz,(t.out q).1,CZ,λp c=>?_⟩;rcases Cf.1 c with h|h
  ·exact(V.out p h).on H.out O0
  rw[jo.1 h];exact S.out.on H.out O0
 exact P9
theorem c59(x:An)(fa c:OA)(fc k:Nat)(w:World)(n:x.fs.length<=1048576)(p:x.ds.length<=1048576)(o:∀i,(x.ds.getD i IB).ls.length<=1048576)(m:T.U5 w fa x.fs)(l:a5f w c x.ds):
 Calls prog 59 #[.agg #[.string x.nm,.slice fa x.fs.length fc,.int .i64 x.cd,.string x.tx,.slice c x.ds.length k]] w λe w'=>(∃q,e=.returned (.agg (qN (x,q)).toArray)/\Kp w.heap.size w' (λu=>anR u (x,q)))/\Bw w w':=by
 have t:=U0 m;have s:=U0 l;clear m l
 go_in
 go_upto_region 2 with fail
 have H:=U0 (Za (w:=w) (ta:=114) (tr:=136) (ar:=[.string x.nm,.slice fa x.fs.length fc,.int .i64 x.cd,.string x.tx,.slice c x.ds.length k]) (zs:=[.string ⟨#[]⟩,.slice none 0 0,.int .i64 0,.string ⟨#[]⟩,.slice none 0 0]));generalize ((w.alloc (.cells #[.string x.nm,.slice fa x.fs.length fc,.int .i64 x.cd,.string x.tx,.slice c x.ds.length k] 114)).alloc (.cells #[.string ⟨#[]⟩,.slice none 0 0,.int .i64 0,.string ⟨#[]⟩,.slice none 0 0] 136)).alloc (.cells #[.string ⟨#[]⟩,.slice none 0 0,.int .i64 0,.string ⟨#[]⟩,.slice none 0 0] 136)=V at*
 go_wp2_with(first|(refine O8 H.out.ca rfl 27 _ rfl (j:=1) [.slice fa x.fs.length fc] rfl rfl underlying27 rfl Y0 ?_)|(refine G5 H.out.ca rfl _ _ rfl rfl rfl Y0 ?_)|(refine x9 H.out rfl 9 _ _ rfl (j:=0) (.string x.nm) rfl rfl rfl (X9 rfl) Y0 ?_;clear H;intro V H))
 refine(c51 fa fc x.fs V n (T.X4 t.out H.out.bel)).mono ?_;rintro e V1⟨⟨g,d,rfl,b⟩,a⟩
 replace H:=U0 (H.out.call a (b.imp λu h=>(⟨_,_,rfl,h.1⟩:dK T.U5 u x.fs (.slice g x.fs.length d))))
 clear a b
 go_wp2_with(first|(refine O8 H.out.ca rfl 102 _ rfl (j:=2) [.int .i64 x.cd,.string x.tx] rfl rfl underlying102 rfl Y0 ?_)|(refine G5 H.out.ca rfl _ _ rfl rfl rfl Y0 ?_)|(refine Wj H.out rfl 46 _ _ rfl (j:=1) [.slice g x.fs.length d] rfl rfl (X9 rfl) rfl Y0 ?_;clear H;intro V H))
 refine(lT x.cd x.tx V).mono ?_;rintro e V1⟨rfl,a⟩
 replace H:=U0 (H.out.call a (Q:=λ_=>True) (λ_ _ _=>trivial))
 clear a
 go_wp2_with(first|(refine G5 H.out.ca rfl _ _ rfl rfl rfl Y0 ?_)|(refine Wj H.out rfl 71 _ _ rfl (j:=2) [.int .i64 x.cd,.string x.tx] rfl rfl (X9 rfl) rfl Y0 ?_;clear H;intro V H))
 refine(a4L c k x.ds V p o (Ja Ot s.out H.out.bel)).mono ?_;rintro e V1⟨⟨f,rfl,b⟩,a⟩
 replace H:=U0 (H.out.call a (b.imp λu h=>(⟨_,_,rfl,h⟩:dK a5f u x.ds (.slice (some ⟨f,0,none⟩) x.ds.length x.ds.length))))
 clear a b
 go_wp2_with(first|(refine G5 H.out.ca rfl _ _ rfl rfl rfl Y0 ?_)|(refine x9 H.out rfl 134 _ _ rfl (j:=4) (.slice (some ⟨f,0,none⟩) x.ds.length x.ds.length) rfl rfl rfl (X9 rfl) Y0 ?_;clear H;intro V H)|(refine Bj H.out rfl 136 _ rfl [.string x.nm,.slice g x.fs.length d,.int .i64 x.cd,.string x.tx,.slice (some ⟨f,0,none⟩) x.ds.length x.ds.length] rfl rfl underlying136 rfl Y0 ?_)|(refine Ui H.out rfl 136 _ _ rfl [.string x.nm,.slice g x.fs.length d,.int .i64 x.cd,.string x.tx,.slice (some ⟨f,0,none⟩) x.ds.length x.ds.length] rfl rfl rfl rfl Y0 ?_;clear H;intro z r b a))
 exact o7 (I8 (P:=prog) (ty:=136) rfl _ z (w.heap.size+1) [.string x.nm,.slice g x.fs.length d,.int .i64 x.cd,.string x.tx,.slice (some ⟨f,0,none⟩) x.ds.length x.ds.length] _ rfl r underlying136 rfl Y0) rfl ⟨⟨(_,_),rfl,b.imp λu h=>⟨h.1.1.2,h.2⟩⟩,a⟩
theorem c19(a:OA)(V:Nat)(is:List An)(w:World)(hl:is.length<=1048576)(A:∀i,((An.fs (is.getD i AB)).length<=1048576/\(An.ds (is.getD i AB)).length<=1048576/\∀j,((An.ds (is.getD i AB)).getD j IB).ls.length<=1048576))(D:AnsAt w a is):
 Calls prog 19 #[.slice a is.length V] w λe w'=>(∃g,e=.returned (.slice (some ⟨g,0,none⟩) is.length is.length)/\Kp w.heap.size w' (λu=>AnsAt u (some ⟨g,0,none⟩) is))/\Bw w w':=by
 obtain⟨b,off,hc⟩:=J8 D;have HC:=U0 hc;have X:=U0 A;clear hc D A;have hmk:=Xm (z:=[.string ⟨#[]⟩,.slice none 0 0,.int .i64 0,.string ⟨#[]⟩,.slice none 0 0]) underlying56 (show(prog.info? 136).map (λi=>(i.zero,i.size,i.bytes))=some (some (.agg #[.string ⟨#[]⟩,.slice none 0 0,.int .i64 0,.string ⟨#[]⟩,.slice none 0 0]),5,88) from Y0) rfl rfl J6 hl
 go_in
 go_wp2;go_loopw[4] (λi wr=>∃(k:Nat)(ps:List (An×(Value×Value))),k<=is.length/\i=.int .i64 k/\Below w.heap.size w wr/\Hid (ps.map Prod.fst=is.take k)/\Hid (Cl wr w.heap.size 136 (ps.flatMap qN++zs [.string ⟨#[]⟩,.slice none 0 0,.int .i64 0,.string ⟨#[]⟩,.slice none 0 0] (is.length-k)))/\Hid (∀q∈ps,Kp (w.heap.size+1) wr (λu=>anR u q))) (λi _=>is.length-(RowKit.intOf i).toNat);exact⟨0,[],I4 _,rfl,P6,rfl,U3 _ _ _,λp c=>absurd c Vm⟩;obtain⟨k,ps,hk,rfl,o,c,hc,E⟩:=hrel;by_cases n:k<is.length;rotate_left
 ·obtain rfl:k=is.length:=O0;have hd:=U0 ((DI (d:=AB) (f:=qN) (R:=anR) (m:=5) (λ_=>rfl) c.out hc.out E.out).low (b':=w.heap.size) Y8);go_wp2;go_ret;exact⟨⟨_,rfl,hd.out⟩,o⟩
 obtain⟨ha,O,C⟩:=HC.out.resolve_left (λh=>by rw[h]at n;exact absurd n (U7 _));subst ha;obtain⟨N,J,F⟩:=C k n;have GB:=U0 (J.below O o);have s:=X.out k;have y:=U0 (SE (P:=(Value×Value)) (d:=AB) (z:=[.string ⟨#[]⟩,.slice none 0 0,.int .i64 0,.string ⟨#[]⟩,.slice none 0 0]) (f:=qN) (m:=5) (λ_=>rfl) rfl c.out n);generalize is.getD k AB=x at*;have GR:=U0 ((wu _ _ _ F o));clear C J F;obtain⟨⟨fa,fc,e1,H⟩,U,S,l,I⟩:=GR.out;obtain⟨p1,p2⟩:=N;dsimp only at e1 l H I;subst e1 l
 go_wp2_with(refine b_ rfl (I7 114 _ rfl (B:=b) (j:=off+k*5) (cs:=_) rfl GB.out underlying114 rfl Y0) ?_)
 refine(c59 x fa U fc S wr s.1 s.2.1 s.2.2 H I).mono ?_;rintro e L⟨⟨q,rfl,hv⟩,t⟩;have Q:=P5 o t;have Z:=U0 (hc.out.below t hc.out.lt);have W:=U0 (hv.low (b':=w.heap.size+1) (by have:=hc.out.lt;omega));have Y:Hid (∀q∈ps,Kp (w.heap.size+1) L (λu=>anR u q)):=λp c=>(E.out p c).below t;have H1:Hid (∀u∈qN (x,q),u.oneCell'=true):=by
  obtain⟨⟨_,_,e1,_⟩,_,_,l,_⟩:=hv.now;obtain⟨q1,q2⟩:=q;dsimp only at e1 l;subst e1 l;exact A8 rfl
 clear hv
 go_wp2_with(refine N8 rfl 136 _ _ rfl (B:=w.heap.size) (j:=k*5) rfl (vs:=qN (x,q)) rfl Z.out (y.out q).2.1 H1.out Y0 ?_;intro z v r;rw[(y.out q).2.2]at v;have CZ:=U0 v;have bz:=Q.trans (r.below Y8);have K:=U0 r;clear v r)
 go_roundw
 ·refine⟨k+1,ps++[(x,q)],O0,by go_num,bz,(y.out q).1,CZ,λp c=>?_⟩;rcases Cf.1 c with h|h
  ·exact(Y.out p h).on K.out O0
  rw[jo.1 h];exact W.out.on K.out O0
 exact P9
theorem c18(a:OA)(u:Nat)(is:List Pc)(w:World)(hl:is.length<=1048576)(q:Qq w a is):
 Calls prog 18 #[.slice a is.length u] w λe w'=>(∃v,e=.returned v/\Gq w.heap.size w' Qq 80 3 is v)/\Bw w w':=by
 obtain⟨b,off,hc⟩:=J8 q;have A:=U0 hc;clear hc q;have hmk:=Xm (z:=[.int .i64 0,.string ⟨#[]⟩,.string ⟨#[]⟩]) underlying55 (show(prog.info? 80).map (λi=>(i.zero,i.size,i.bytes))=some (some (.agg #[.int .i64 0,.string ⟨#[]⟩,.string ⟨#[]⟩]),3,40) from Y0) rfl rfl J6 hl
 go_in
 go_wp2;go_loopw[4] (λi wr=>∃(k:Nat),k<=is.length/\i=.int .i64 k/\Below w.heap.size w wr/\Hid (Cl wr w.heap.size 80 (Ur is oD [.int .i64 0,.string ⟨#[]⟩,.string ⟨#[]⟩] k))) (λi _=>is.length-(RowKit.intOf i).toNat);exact⟨0,I4 _,rfl,P6,U3 _ _ _⟩;obtain⟨k,hk,rfl,g,hc⟩:=hrel;by_cases c:k<is.length;rotate_left
 ·obtain rfl:k=is.length:=O0;have hd:Hid (Gq w.heap.size wr Qq 80 3 is _):=yj (d:=Vu) (λ_=>rfl) (λ_ _ _ h=>h) hc.out;go_wp2;go_ret;exact⟨⟨_,rfl,hd.out⟩,g⟩
 obtain⟨ha,s,o⟩:=A.out.resolve_left (λh=>by rw[h]at c;exact absurd c (U7 _));subst ha;have C:=U0 ((o k c).below s g);have r:=U0 (qj (d:=Vu) (z:=[.int .i64 0,.string ⟨#[]⟩,.string ⟨#[]⟩]) (f:=oD) (m:=3) (λ_=>rfl) rfl c);generalize is.getD k Vu=x at*;clear o
 go_wp2_with(refine b_ rfl (I7 110 _ rfl (B:=b) (j:=off+k*3) (cs:=oD x) rfl C.out underlying110 rfl Y0) ?_)
 refine(c58 x wr).mono ?_;rintro e w1⟨rfl,p⟩;have t:=P5 g p;have y:=U0 (hc.out.below p hc.out.lt)
 go_wp2_with(refine N8 rfl 80 _ _ rfl (B:=w.heap.size) (j:=k*3) rfl (vs:=oD x) rfl y.out r.out.1 (A8 rfl) Y0 ?_;intro z l n;rw[r.out.2]at l;have D:=U0 l;have bz:=t.trans (n.below Y8);clear l n)
 go_roundw;exact⟨k+1,O0,by go_num,bz,D⟩;exact P9
structure Wd where
 ky:BY
 b:Bs
 ws:List Yz
 fl:List Pc
 fg:BY
 an:List An
structure Wa where
 q:Ba
 wa:OA
 wc:Nat
 pa:OA
 pc:Nat
 aa:OA
 ac:Nat
@[go_sem] abbrev wdV(x:Wd)(q:Wa):List Value:=[.string x.ky,.int .i64 x.b.wd,.bool x.b.up,.int .i64 x.b.now,.int .i64 x.b.ep,.int .i64 x.b.ed,.slice q.q.sa x.b.sf.length q.q.sc,.slice q.q.la x.b.lo.length q.q.lc,.slice q.q.fa x.b.fs.length q.q.fc,.int .i64 x.b.s.wd,.slice q.q.ta x.b.s.ts.length q.q.tc,.slice q.q.ra x.b.s.rs.length q.q.rc,.slice q.q.ha x.b.hd.length q.q.hc,.slice q.q.oa x.b.rt.length q.q.oc,.slice q.q.na x.b.rn.length q.q.nc,.slice q.q.ja x.b.jb.length q.q.jc,.slice q.wa x.ws.length q.wc,.slice q.pa x.fl.length q.pc,.string x.fg,.slice q.aa x.an.length q.ac]
structure Qx(w:World)(x:Wd)(q:Wa):Prop where
 b:Dn w x.b q.q
 ws:a5g w q.wa x.ws
 fl:Qq w q.pa x.fl
 an:AnsAt w q.aa x.an
theorem Qx.below{w w':World}{x:Wd}{q:Wa}(h:Qx w x q)(a:Bw w w'):Qx w' x q:=⟨h.b.below a,Ja Zn h.ws a,zl h.fl a,Ja wu h.an a⟩
structure SB(x:Wd)(B:Nat):Prop where
 ky:x.ky.size<=B
 b:Bo x.b B
 wl:x.ws.length<=B
 ws:∀i,(x.ws.getD i Vf).le B
 pl:x.fl.length<=B
 ps:∀i,(x.fl.getD i Vu).le B
 fg:x.fg.size<=B
 al:x.an.length<=B
 az:∀i,(x.an.getD i AB).le B
theorem c6(x:Wd)(q:Wa)(w:World)(hl:SB x 1048576)(o:Qx w x q):
 Calls prog 6 #[.agg (wdV x q).toArray] w λe w'=>(∃n,e=.returned (.agg (wdV x n).toArray)/\qO x.b n.q/\Qx w' x n)/\Bw w w':=by
 have f:=U0 hl;have m:=U0 o;clear o hl
 go_in
 go_upto_region 2 with fail
 have H:=U0 (Za (w:=w) (ta:=40) (tr:=58) (ar:=[.string x.ky,.int .i64 x.b.wd,.bool x.b.up,.int .i64 x.b.now,.int .i64 x.b.ep,.int .i64 x.b.ed,.slice q.q.sa x.b.sf.length q.q.sc,.slice q.q.la x.b.lo.length q.q.lc,.slice q.q.fa x.b.fs.length q.q.fc,.int .i64 x.b.s.wd,.slice q.q.ta x.b.s.ts.length q.q.tc,.slice q.q.ra x.b.s.rs.length q.q.rc,.slice q.q.ha x.b.hd.length q.q.hc,.slice q.q.oa x.b.rt.length q.q.oc,.slice q.q.na x.b.rn.length q.q.nc,.slice q.q.ja x.b.jb.length q.q.jc,.slice q.wa x.ws.length q.wc,.slice q.pa x.fl.length q.pc,.string x.fg,.slice q.aa x.an.length q.ac]) (zs:=[.string ⟨#[]⟩,.int .i64 0,.bool false,.int .i64 0,.int .i64 0,.int .i64 0,.slice none 0 0,.slice none 0 0,.slice none 0 0,.int .i64 0,.slice none 0 0,.slice none 0 0,.slice none 0 0,.slice none 0 0,.slice none 0 0,.slice none 0 0,.slice none 0 0,.slice none 0 0,.string ⟨#[]⟩,.slice none 0 0]));generalize ((w.alloc (.cells #[.string x.ky,.int .i64 x.b.wd,.bool x.b.up,.int .i64 x.b.now,.int .i64 x.b.ep,.int .i64 x.b.ed,.slice q.q.sa x.b.sf.length q.q.sc,.slice q.q.la x.b.lo.length q.q.lc,.slice q.q.fa x.b.fs.length q.q.fc,.int .i64 x.b.s.wd,.slice q.q.ta x.b.s.ts.length q.q.tc,.slice q.q.ra x.b.s.rs.length q.q.rc,.slice q.q.ha x.b.hd.length q.q.hc,.slice q.q.oa x.b.rt.length q.q.oc,.slice q.q.na x.b.rn.length q.q.nc,.slice q.q.ja x.b.jb.length q.q.jc,.slice q.wa x.ws.length q.wc,.slice q.pa x.fl.length q.pc,.string x.fg,.slice q.aa x.an.length q.ac] 40)).alloc (.cells #[.string ⟨#[]⟩,.int .i64 0,.bool false,.int .i64 0,.int .i64 0,.int .i64 0,.slice none 0 0,.slice none 0 0,.slice none 0 0,.int .i64 0,.slice none 0 0,.slice none 0 0,.slice none 0 0,.slice none 0 0,.slice none 0 0,.slice none 0 0,.slice none 0 0,.slice none 0 0,.string ⟨#[]⟩,.slice none 0 0] 58)).alloc (.cells #[.string ⟨#[]⟩,.int .i64 0,.bool false,.int .i64 0,.int .i64 0,.int .i64 0,.slice none 0 0,.slice none 0 0,.slice none 0 0,.int .i64 0,.slice none 0 0,.slice none 0 0,.slice none 0 0,.slice none 0 0,.slice none 0 0,.slice none 0 0,.slice none 0 0,.slice none 0 0,.string ⟨#[]⟩,.slice none 0 0] 58)=V at*
 go_wp2_with(first|(refine O8 H.out.ca rfl 35 _ rfl (j:=1) [.int .i64 x.b.wd,.bool x.b.up,.int .i64 x.b.now,.int .i64 x.b.ep,.int .i64 x.b.ed,.slice q.q.sa x.b.sf.length q.q.sc,.slice q.q.la x.b.lo.length q.q.lc,.slice q.q.fa x.b.fs.length q.q.fc,.int .i64 x.b.s.wd,.slice q.q.ta x.b.s.ts.length q.q.tc,.slice q.q.ra x.b.s.rs.length q.q.rc,.slice q.q.ha x.b.hd.length q.q.hc,.slice q.q.oa x.b.rt.length q.q.oc,.slice q.q.na x.b.rn.length q.q.nc,.slice q.q.ja x.b.jb.length q.q.jc] rfl rfl underlying35 rfl Y0 ?_)|(refine G5 H.out.ca rfl _ _ rfl rfl rfl Y0 ?_)|(refine x9 H.out rfl 9 _ _ rfl (j:=0) (.string x.ky) rfl rfl rfl (X9 rfl) Y0 ?_;clear H;intro V H))
 refine(c16 x.b q.q V f.out.b (m.out.b.below H.out.bel)).mono ?_;rintro e V1⟨⟨a,rfl,p,c⟩,d⟩
 replace H:=U0 (H.out.call d c)
 clear d c
 go_wp2_with(first|(refine G5 H.out.ca rfl _ _ rfl rfl rfl Y0 ?_)|(refine Wj H.out rfl 53 _ _ rfl (j:=1) [.int .i64 x.b.wd,.bool x.b.up,.int .i64 x.b.now,.int .i64 x.b.ep,.int .i64 x.b.ed,.slice a.sa x.b.sf.length a.sc,.slice a.la x.b.lo.length a.lc,.slice a.fa x.b.fs.length a.fc,.int .i64 x.b.s.wd,.slice a.ta x.b.s.ts.length a.tc,.slice a.ra x.b.s.rs.length a.rc,.slice a.ha x.b.hd.length a.hc,.slice a.oa x.b.rt.length a.oc,.slice a.na x.b.rn.length a.nc,.slice a.ja x.b.jb.length a.jc] rfl rfl (X9 rfl) rfl Y0 ?_;clear H;intro V H))
 refine(c17 q.wa q.wc x.ws V f.out.wl (λi=>(f.out.ws i).2.1.1) (Ja Zn m.out.ws H.out.bel)).mono ?_;rintro e V1⟨⟨l,rfl,c⟩,d⟩
 replace H:=U0 (H.out.call d c)
 clear d c
 go_wp2_with(first|(refine G5 H.out.ca rfl _ _ rfl rfl rfl Y0 ?_)|(refine x9 H.out rfl 54 _ _ rfl (j:=16) (.slice (some ⟨l,0,none⟩) x.ws.length x.ws.length) rfl rfl rfl (X9 rfl) Y0 ?_;clear H;intro V H))
 refine(c18 q.pa q.pc x.fl V f.out.pl (zl m.out.fl H.out.bel)).mono ?_;rintro e V1⟨⟨_,rfl,k,c2,rfl,_,c⟩,d⟩
 replace H:=U0 (H.out.call d (c.imp λu h=>h.1))
 clear d c
 go_wp2_with(first|(refine G5 H.out.ca rfl _ _ rfl rfl rfl Y0 ?_)|(refine x9 H.out rfl 55 _ _ rfl (j:=17) (.slice k x.fl.length c2) rfl rfl rfl (X9 rfl) Y0 ?_;clear H;intro V H)|(refine x9 H.out rfl 9 _ _ rfl (j:=18) (.string x.fg) rfl rfl rfl (X9 rfl) Y0 ?_;clear H;intro V H))
 refine(c19 q.aa q.ac x.an V f.out.al (λi=>⟨(f.out.az i).2.1.1,(f.out.az i).2.2.2.1,λj=>((f.out.az i).2.2.2.2 j).2.2.1.1⟩) (Ja wu m.out.an H.out.bel)).mono ?_;rintro e V1⟨⟨g,rfl,c⟩,d⟩
 replace H:=U0 (H.out.call d c)
 clear d c
 go_wp2_with(first|(refine G5 H.out.ca rfl _ _ rfl rfl rfl Y0 ?_)|(refine x9 H.out rfl 56 _ _ rfl (j:=19) (.slice (some ⟨g,0,none⟩) x.an.length x.an.length) rfl rfl rfl (X9 rfl) Y0 ?_;clear H;intro V H)|(refine Bj H.out rfl 58 _ rfl [.string x.ky,.int .i64 x.b.wd,.bool x.b.up,.int .i64 x.b.now,.int .i64 x.b.ep,.int .i64 x.b.ed,.slice a.sa x.b.sf.length a.sc,.slice a.la x.b.lo.length a.lc,.slice a.fa x.b.fs.length a.fc,.int .i64 x.b.s.wd,.slice a.ta x.b.s.ts.length a.tc,.slice a.ra x.b.s.rs.length a.rc,.slice a.ha x.b.hd.length a.hc,.slice a.oa x.b.rt.length a.oc,.slice a.na x.b.rn.length a.nc,.slice a.ja x.b.jb.length a.jc,.slice (some ⟨l,0,none⟩) x.ws.length x.ws.length,.slice k x.fl.length c2,.string x.fg,.slice (some ⟨g,0,none⟩) x.an.length x.an.length] rfl rfl underlying58 rfl Y0 ?_)|(refine Ui H.out rfl 58 _ _ rfl [.string x.ky,.int .i64 x.b.wd,.bool x.b.up,.int .i64 x.b.now,.int .i64 x.b.ep,.int .i64 x.b.ed,.slice a.sa x.b.sf.length a.sc,.slice a.la x.b.lo.length a.lc,.slice a.fa x.b.fs.length a.fc,.int .i64 x.b.s.wd,.slice a.ta x.b.s.ts.length a.tc,.slice a.ra x.b.s.rs.length a.rc,.slice a.ha x.b.hd.length a.hc,.slice a.oa x.b.rt.length a.oc,.slice a.na x.b.rn.length a.nc,.slice a.ja x.b.jb.length a.jc,.slice (some ⟨l,0,none⟩) x.ws.length x.ws.length,.slice k x.fl.length c2,.string x.fg,.slice (some ⟨g,0,none⟩) x.an.length x.an.length] rfl rfl rfl rfl Y0 ?_;clear H;intro z v c d))
 exact o7 (I8 (P:=prog) (ty:=58) rfl _ z (w.heap.size+1) [.string x.ky,.int .i64 x.b.wd,.bool x.b.up,.int .i64 x.b.now,.int .i64 x.b.ep,.int .i64 x.b.ed,.slice a.sa x.b.sf.length a.sc,.slice a.la x.b.lo.length a.lc,.slice a.fa x.b.fs.length a.fc,.int .i64 x.b.s.wd,.slice a.ta x.b.s.ts.length a.tc,.slice a.ra x.b.s.rs.length a.rc,.slice a.ha x.b.hd.length a.hc,.slice a.oa x.b.rt.length a.oc,.slice a.na x.b.rn.length a.nc,.slice a.ja x.b.jb.length a.jc,.slice (some ⟨l,0,none⟩) x.ws.length x.ws.length,.slice k x.fl.length c2,.string x.fg,.slice (some ⟨g,0,none⟩) x.an.length x.an.length] _ rfl v underlying58 rfl Y0) rfl ⟨⟨⟨a,_,_,_,_,_,_⟩,rfl,p,by
  obtain⟨⟨⟨⟨_,h1⟩,h2⟩,t⟩,r⟩:=c.now;exact⟨h1,h2,t,r⟩⟩,d⟩
def Sz(P:Prop)(e:Ending):Prop:=∃r:Int,e=.returned (.int .i64 r)/\(0<=r->P/\r<=1048576)
theorem V_{P:Prop}:Sz P (.returned (.int .i64 (-1))):=⟨-1,rfl,λh=>absurd h (by decide)⟩
theorem a1L(x:M3)(l:Int)(w:World)(h0:0<=l)(h1:l<=1048576)(c:x.le 9223372036854775807):
 Calls prog 144 #[.agg #[.string x.nm,.string x.tl,.string x.ar],.int .i64 l] w λe w'=>Sz (x.le 1048576) e/\Bw w w':=by
 obtain⟨s1,s2,s3⟩:=c
 go_in
 go_upto_region 1 with fail
 have a:=U0 (U3 w [.string x.nm,.string x.tl,.string x.ar] 100);have b:=U0 (P6 (w:=w) (o:=.cells #[.string x.nm,.string x.tl,.string x.ar] 100));generalize w.alloc (.cells #[.string x.nm,.string x.tl,.string x.ar] 100)=V0 at*;by_cases g1:l<x.nm.size
 ·go_wp2_with(first|(refine G5 a.out rfl _ _ rfl rfl rfl Y0 ?_))
  go_ret;exact⟨V_,b.out⟩
 by_cases g2:l-x.nm.size<x.tl.size
 ·go_wp2_with(first|(refine G5 a.out rfl _ _ rfl rfl rfl Y0 ?_))
  go_ret;exact⟨V_,b.out⟩
 by_cases g3:l-x.nm.size-x.tl.size<x.ar.size
 ·go_wp2_with(first|(refine G5 a.out rfl _ _ rfl rfl rfl Y0 ?_))
  go_ret;exact⟨V_,b.out⟩
 go_wp2_with(first|(refine G5 a.out rfl _ _ rfl rfl rfl Y0 ?_))
 go_ret;exact⟨⟨_,rfl,λh=>⟨⟨O0,O0,O0⟩,O0⟩⟩,b.out⟩
theorem c145(x:T6)(l:Int)(w:World)(h0:0<=l)(h1:l<=1048576)(n:x.le 9223372036854775807):
 Calls prog 145 #[.agg #[.bool x.over,.int .i64 x.cd,.string x.tx,.bool x.has,.string x.nm,.int .i64 x.st],.int .i64 l] w λe w'=>Sz (x.le 1048576) e/\Bw w w':=by
 obtain⟨m,s2⟩:=n
 go_in
 go_upto_region 1 with fail
 have a:=U0 (U3 w [.bool x.over,.int .i64 x.cd,.string x.tx,.bool x.has,.string x.nm,.int .i64 x.st] 104);have k:=U0 (P6 (w:=w) (o:=.cells #[.bool x.over,.int .i64 x.cd,.string x.tx,.bool x.has,.string x.nm,.int .i64 x.st] 104));generalize w.alloc (.cells #[.bool x.over,.int .i64 x.cd,.string x.tx,.bool x.has,.string x.nm,.int .i64 x.st] 104)=q at*
 go_wp2_with(first|(refine O8 a.out rfl 102 _ rfl (j:=1) [.int .i64 x.cd,.string x.tx] rfl rfl underlying102 rfl Y0 ?_)|(refine G5 a.out rfl _ _ rfl rfl rfl Y0 ?_))
 refine(c87 x.cd x.tx (l) q m O0 O0).mono ?_;rintro e V1⟨⟨b,rfl,hr⟩,d⟩;have g:=U0 hr;have f:=U0 (P5 k.out d);have i:=U0 (a.out.below d a.out.lt);clear hr d a k;by_cases p:b<0
 ·go_wp2;go_ret;exact⟨V_,f.out⟩
 have c:=g.out O0;have r:=U0 c.1;have e1:b<=1048576:=by have:=c.2;omega
 have n1:0<=b:=O0;clear g c p;by_cases g1:b<x.nm.size
 ·go_wp2_with(first|(refine G5 i.out rfl _ _ rfl rfl rfl Y0 ?_))
  go_ret;exact⟨V_,f.out⟩
 go_wp2_with(first|(refine G5 i.out rfl _ _ rfl rfl rfl Y0 ?_))
 go_ret;exact⟨⟨_,rfl,λh=>⟨⟨r.out,O0⟩,O0⟩⟩,f.out⟩
theorem c86(x:mr)(b:OA)(d:Nat)(l:Int)(w:World)(h0:0<=l)(h1:l<=1048576)(F:x.le 9223372036854775807)(v:X6 w b x.ls):
 Calls prog 86 #[.agg #[.int .i64 x.kd,.int .i64 x.tw,.int .i64 x.fr,.int .i64 x.ep,.int .i64 x.ed,.string x.km.nm,.string x.km.tl,.string x.km.ar,.slice b x.ls.length d,.int .i64 x.ct,.bool x.tn.over,.int .i64 x.tn.cd,.string x.tn.tx,.bool x.tn.has,.string x.tn.nm,.int .i64 x.tn.st],.int .i64 l] w λe w'=>Sz (x.le 1048576) e/\Bw w w':=by
 obtain⟨E,⟨D,u⟩,C⟩:=F;have J:=U0 u;have K:=U0 v;clear u v
 go_in
 go_upto_region 1 with fail
 have g:=U0 (U3 w [.int .i64 x.kd,.int .i64 x.tw,.int .i64 x.fr,.int .i64 x.ep,.int .i64 x.ed,.string x.km.nm,.string x.km.tl,.string x.km.ar,.slice b x.ls.length d,.int .i64 x.ct,.bool x.tn.over,.int .i64 x.tn.cd,.string x.tn.tx,.bool x.tn.has,.string x.tn.nm,.int .i64 x.tn.st] 106);have B:=U0 (P6 (w:=w) (o:=.cells #[.int .i64 x.kd,.int .i64 x.tw,.int .i64 x.fr,.int .i64 x.ep,.int .i64 x.ed,.string x.km.nm,.string x.km.tl,.string x.km.ar,.slice b x.ls.length d,.int .i64 x.ct,.bool x.tn.over,.int .i64 x.tn.cd,.string x.tn.tx,.bool x.tn.has,.string x.tn.nm,.int .i64 x.tn.st] 106));generalize w.alloc (.cells #[.int .i64 x.kd,.int .i64 x.tw,.int .i64 x.fr,.int .i64 x.ep,.int .i64 x.ed,.string x.km.nm,.string x.km.tl,.string x.km.ar,.slice b x.ls.length d,.int .i64 x.ct,.bool x.tn.over,.int .i64 x.tn.cd,.string x.tn.tx,.bool x.tn.has,.string x.tn.nm,.int .i64 x.tn.st] 106)=I at*
 go_wp2_with(first|(refine O8 g.out rfl 100 _ rfl (j:=5) [.string x.km.nm,.string x.km.tl,.string x.km.ar] rfl rfl underlying100 rfl Y0 ?_)|(refine G5 g.out rfl _ _ rfl rfl rfl Y0 ?_))
 refine(a1L x.km (l) I O0 O0 E).mono ?_;rintro e V1⟨⟨k,rfl,hr⟩,a⟩;have z:=U0 hr;have p:=U0 (P5 B.out a);have n:=U0 (g.out.below a g.out.lt);clear hr a g B;by_cases c:k<0
 ·go_wp2;go_ret;exact⟨V_,p.out⟩
 have s:=z.out O0;have N:=U0 s.1;have e1:k<=1048576:=by have:=s.2;omega
 have n1:0<=k:=O0;clear z s c
 go_wp2_with(first|(refine G5 n.out rfl _ _ rfl rfl rfl Y0 ?_))
 refine(c143 b d x.ls (k) V1 O0 O0 J.out D (Z4 K.out p.out)).mono ?_;rintro e H⟨⟨i,rfl,hr⟩,a⟩;have y:=U0 hr;have t:=U0 (P5 p.out a);have f:=U0 (n.out.below a n.out.lt);clear hr a n p;by_cases c:i<0
 ·go_wp2;go_ret;exact⟨V_,t.out⟩
 have m:=y.out O0;have F2:=U0 (And.intro m.1 m.2.1);have e2:i<=1048576:=by have:=m.2.2;omega
 have n2:0<=i:=O0;clear y m c
 go_wp2_with(first|(refine O8 f.out rfl 104 _ rfl (j:=10) [.bool x.tn.over,.int .i64 x.tn.cd,.string x.tn.tx,.bool x.tn.has,.string x.tn.nm,.int .i64 x.tn.st] rfl rfl underlying104 rfl Y0 ?_)|(refine G5 f.out rfl _ _ rfl rfl rfl Y0 ?_))
 refine(c145 x.tn (i) H O0 O0 C).mono ?_;rintro e V3⟨⟨q,rfl,hr⟩,a⟩;have R3:=U0 hr;have A:=U0 (P5 t.out a);have O:=U0 (f.out.below a f.out.lt);clear hr a f t;by_cases c:q<0
 ·go_wp2;go_ret;exact⟨V_,A.out⟩
 have r:=R3.out O0;have L:=U0 r.1;have e3:q<=1048576:=by have:=r.2;omega
 have n3:0<=q:=O0;clear R3 r c
 go_wp2_with(first|(refine G5 O.out rfl _ _ rfl rfl rfl Y0 ?_))
 go_ret;exact⟨⟨_,rfl,λh=>⟨⟨N.out,F2.out,L.out⟩,O0⟩⟩,A.out⟩
theorem c35(x:Yz)(a:OA)(b:Nat)(l:Int)(w:World)(h0:0<=l)(h1:l<=1048576)(p:x.le 9223372036854775807)(k:X6 w a x.of.ls):
 Calls prog 35 #[.agg #[.int .i64 x.no,.bool x.up,.bool x.has,.int .i64 x.of.kd,.int .i64 x.of.tw,.int .i64 x.of.fr,.int .i64 x.of.ep,.int .i64 x.of.ed,.string x.of.km.nm,.string x.of.km.tl,.string x.of.km.ar,.slice a x.of.ls.length b,.int .i64 x.of.ct,.bool x.of.tn.over,.int .i64 x.of.tn.cd,.string x.of.tn.tx,.bool x.of.tn.has,.string x.of.tn.nm,.int .i64 x.of.tn.st],.int .i64 l] w λe w'=>Sz (x.le 1048576) e/\Bw w w':=by
 have s:=U0 k;clear k
 go_in
 go_upto_region 1 with fail
 have c:=U0 (U3 w [.int .i64 x.no,.bool x.up,.bool x.has,.int .i64 x.of.kd,.int .i64 x.of.tw,.int .i64 x.of.fr,.int .i64 x.of.ep,.int .i64 x.of.ed,.string x.of.km.nm,.string x.of.km.tl,.string x.of.km.ar,.slice a x.of.ls.length b,.int .i64 x.of.ct,.bool x.of.tn.over,.int .i64 x.of.tn.cd,.string x.of.tn.tx,.bool x.of.tn.has,.string x.of.tn.nm,.int .i64 x.of.tn.st] 108);have i:=U0 (P6 (w:=w) (o:=.cells #[.int .i64 x.no,.bool x.up,.bool x.has,.int .i64 x.of.kd,.int .i64 x.of.tw,.int .i64 x.of.fr,.int .i64 x.of.ep,.int .i64 x.of.ed,.string x.of.km.nm,.string x.of.km.tl,.string x.of.km.ar,.slice a x.of.ls.length b,.int .i64 x.of.ct,.bool x.of.tn.over,.int .i64 x.of.tn.cd,.string x.of.tn.tx,.bool x.of.tn.has,.string x.of.tn.nm,.int .i64 x.of.tn.st] 108));generalize w.alloc (.cells #[.int .i64 x.no,.bool x.up,.bool x.has,.int .i64 x.of.kd,.int .i64 x.of.tw,.int .i64 x.of.fr,.int .i64 x.of.ep,.int .i64 x.of.ed,.string x.of.km.nm,.string x.of.km.tl,.string x.of.km.ar,.slice a x.of.ls.length b,.int .i64 x.of.ct,.bool x.of.tn.over,.int .i64 x.of.tn.cd,.string x.of.tn.tx,.bool x.of.tn.has,.string x.of.tn.nm,.int .i64 x.of.tn.st] 108)=r at*
 go_wp2_with(first|(refine O8 c.out rfl 106 _ rfl (j:=3) [.int .i64 x.of.kd,.int .i64 x.of.tw,.int .i64 x.of.fr,.int .i64 x.of.ep,.int .i64 x.of.ed,.string x.of.km.nm,.string x.of.km.tl,.string x.of.km.ar,.slice a x.of.ls.length b,.int .i64 x.of.ct,.bool x.of.tn.over,.int .i64 x.of.tn.cd,.string x.of.tn.tx,.bool x.of.tn.has,.string x.of.tn.nm,.int .i64 x.of.tn.st] rfl rfl underlying106 rfl Y0 ?_)|(refine G5 c.out rfl _ _ rfl rfl rfl Y0 ?_))
 refine(c86 x.of a b (l) r O0 O0 p (Z4 s.out i.out)).mono ?_;rintro e V1⟨⟨d,rfl,hr⟩,g⟩;have m:=U0 hr;have n:=U0 (P5 i.out g);have u:=U0 (c.out.below g c.out.lt);clear hr g c i;by_cases q:d<0
 ·go_wp2;go_ret;exact⟨V_,n.out⟩
 have f:=m.out O0;have t:=U0 f.1;have e1:d<=1048576:=by have:=f.2;omega
 have n1:0<=d:=O0;clear m f q
 go_wp2_with(first|(refine G5 u.out rfl _ _ rfl rfl rfl Y0 ?_))
 go_ret;exact⟨⟨_,rfl,λh=>⟨t.out,O0⟩⟩,n.out⟩
theorem c36(x:Pc)(l:Int)(w:World)(h0:0<=l)(h1:l<=1048576)(c:x.le 9223372036854775807):
 Calls prog 36 #[.agg #[.int .i64 x.tw,.string x.se,.string x.by_],.int .i64 l] w λe w'=>Sz (x.le 1048576) e/\Bw w w':=by
 obtain⟨s1,s2⟩:=c
 go_in
 go_upto_region 1 with fail
 have a:=U0 (U3 w [.int .i64 x.tw,.string x.se,.string x.by_] 110);have b:=U0 (P6 (w:=w) (o:=.cells #[.int .i64 x.tw,.string x.se,.string x.by_] 110));generalize w.alloc (.cells #[.int .i64 x.tw,.string x.se,.string x.by_] 110)=V0 at*;by_cases g1:l<x.se.size
 ·go_wp2_with(first|(refine G5 a.out rfl _ _ rfl rfl rfl Y0 ?_))
  go_ret;exact⟨V_,b.out⟩
 by_cases g2:l-x.se.size<x.by_.size
 ·go_wp2_with(first|(refine G5 a.out rfl _ _ rfl rfl rfl Y0 ?_))
  go_ret;exact⟨V_,b.out⟩
 go_wp2_with(first|(refine G5 a.out rfl _ _ rfl rfl rfl Y0 ?_))
 go_ret;exact⟨⟨_,rfl,λh=>⟨⟨O0,O0⟩,O0⟩⟩,b.out⟩
theorem c146(x:Dd)(b:OA)(f:Nat)(l:Int)(w:World)(h0:0<=l)(h1:l<=1048576)(F:x.le 9223372036854775807)(y:X6 w b x.ls):
 Calls prog 146 #[.agg #[.string x.nm,.bool x.md,.string x.km.nm,.string x.km.tl,.string x.km.ar,.slice b x.ls.length f,.int .i64 x.cd,.string x.tx],.int .i64 l] w λe w'=>Sz (x.le 1048576) e/\Bw w w':=by
 obtain⟨s0,E,⟨D,v⟩,C⟩:=F;have J:=U0 v;have K:=U0 y;clear v y
 go_in
 go_upto_region 1 with fail
 have c:=U0 (U3 w [.string x.nm,.bool x.md,.string x.km.nm,.string x.km.tl,.string x.km.ar,.slice b x.ls.length f,.int .i64 x.cd,.string x.tx] 241);have u:=U0 (P6 (w:=w) (o:=.cells #[.string x.nm,.bool x.md,.string x.km.nm,.string x.km.tl,.string x.km.ar,.slice b x.ls.length f,.int .i64 x.cd,.string x.tx] 241));generalize w.alloc (.cells #[.string x.nm,.bool x.md,.string x.km.nm,.string x.km.tl,.string x.km.ar,.slice b x.ls.length f,.int .i64 x.cd,.string x.tx] 241)=I at*;by_cases g1:l<x.nm.size
 ·go_wp2_with(first|(refine G5 c.out rfl _ _ rfl rfl rfl Y0 ?_))
  go_ret;exact⟨V_,u.out⟩
 go_wp2_with(first|(refine O8 c.out rfl 100 _ rfl (j:=2) [.string x.km.nm,.string x.km.tl,.string x.km.ar] rfl rfl underlying100 rfl Y0 ?_)|(refine G5 c.out rfl _ _ rfl rfl rfl Y0 ?_))
 refine(a1L x.km (l-x.nm.size) I O0 O0 E).mono ?_;rintro e V1⟨⟨k,rfl,hr⟩,a⟩;have A:=U0 hr;have p:=U0 (P5 u.out a);have n:=U0 (c.out.below a c.out.lt);clear hr a c u;by_cases d:k<0
 ·go_wp2;go_ret;exact⟨V_,p.out⟩
 have s:=A.out O0;have N:=U0 s.1;have e1:k<=1048576:=by have:=s.2;omega
 have n1:0<=k:=O0;clear A s d
 go_wp2_with(first|(refine G5 n.out rfl _ _ rfl rfl rfl Y0 ?_))
 refine(c143 b f x.ls (k) V1 O0 O0 J.out D (Z4 K.out p.out)).mono ?_;rintro e H⟨⟨i,rfl,hr⟩,a⟩;have z:=U0 hr;have t:=U0 (P5 p.out a);have g:=U0 (n.out.below a n.out.lt);clear hr a n p;by_cases d:i<0
 ·go_wp2;go_ret;exact⟨V_,t.out⟩
 have m:=z.out O0;have F2:=U0 (And.intro m.1 m.2.1);have e2:i<=1048576:=by have:=m.2.2;omega
 have n2:0<=i:=O0;clear z m d
 go_wp2_with(first|(refine O8 g.out rfl 102 _ rfl (j:=6) [.int .i64 x.cd,.string x.tx] rfl rfl underlying102 rfl Y0 ?_)|(refine G5 g.out rfl _ _ rfl rfl rfl Y0 ?_))
 refine(c87 x.cd x.tx (i) H C O0 O0).mono ?_;rintro e V3⟨⟨q,rfl,hr⟩,a⟩;have R3:=U0 hr;have B:=U0 (P5 t.out a);have O:=U0 (g.out.below a g.out.lt);clear hr a g t;by_cases d:q<0
 ·go_wp2;go_ret;exact⟨V_,B.out⟩
 have r:=R3.out O0;have L:=U0 r.1;have e3:q<=1048576:=by have:=r.2;omega
 have n3:0<=q:=O0;clear R3 r d
 go_wp2_with(first|(refine G5 O.out rfl _ _ rfl rfl rfl Y0 ?_))
 go_ret;exact⟨⟨_,rfl,λh=>⟨⟨O0,N.out,F2.out,L.out⟩,O0⟩⟩,B.out⟩
theorem a1O(B:Nat):C_.le B:=⟨I4 _,I4 _,I4 _⟩
theorem a1J(B:Nat):([]:List L4).length<=B/\∀i,(([]:List L4).getD i l_).le B:=⟨I4 _,λi=>⟨I4 _,I4 _⟩⟩
theorem nY(B:Nat):Vf.le B:=⟨a1O B,a1J B,I4 _,I4 _⟩
theorem a2a(B:Nat):Vu.le B:=⟨I4 _,I4 _⟩
theorem a0x(B:Nat):IB.le B:=⟨I4 _,a1O B,a1J B,I4 _⟩
theorem a2c(B:Nat):AB.le B:=⟨I4 _,⟨I4 _,λi=>⟨I4 _,I4 _⟩⟩,I4 _,I4 _,λi=>a0x B⟩
theorem c10(a:OA)(I:Nat)(is:List Yz)(l:Int)(w:World)(h0:0<=l)(h1:l<=1048576)(o:∀i,(is.getD i Vf).le 9223372036854775807)(hl:is.length<=9223372036854775807)(q:a5g w a is):
 Calls prog 10 #[.slice a is.length I,.int .i64 l] w λe w'=>Sz (is.length<=1048576/\∀i,(is.getD i Vf).le 1048576) e/\Bw w w':=by
 obtain⟨b,off,hc⟩:=J8 q;have N:=U0 hc;have L:=U0 o;clear hc q o;by_cases hbig:l<is.length
 ·go_in
  go_wp2;go_ret;exact⟨V_,J4 _ _⟩
 go_in
 go_wp2;go_loopw[1,5] (λz i wr=>∃(k:Nat)(r:Int),k<=is.length/\i=.int .i64 k/\z=.int .i64 r/\0<=r/\r<=1048576/\Hid (∀i,i<k->(is.getD i Vf).le 1048576)/\Below w.heap.size w wr) (λ_ i _=>is.length-(RowKit.intOf i).toNat);exact⟨0,_,I4 _,rfl,rfl,O0,O0,λi h=>absurd h (U7 _),J4 _ _⟩;obtain⟨k,r,hk,rfl,rfl,D,C,n,c⟩:=hrel;by_cases m:k<is.length;rotate_left
 ·have f:Hid (∀i,(is.getD i Vf).le 1048576):=U0 (Oz (is:=is) (d:=Vf) (R:=λx=>x.le 1048576) (nY _) (λi h=>n.out i O0));go_wp2;go_ret;exact⟨⟨r,rfl,λ_=>⟨⟨O0,f.out⟩,C⟩⟩,c⟩
 obtain⟨ha,E,p⟩:=N.out.resolve_left (λh=>by rw[h]at m;exact absurd m (U7 _));subst ha;obtain⟨p0,v,t⟩:=p k m;have P:=U0 (v.below E c);have O:=U0 (Zn _ _ _ t c);clear v t;have A:=L.out k;generalize hx:is.getD k Vf=x at*;have K:=U0 hx;clear hx p;obtain⟨J,H,e0,u⟩:=O.out;dsimp only at e0 u;subst e0
 go_wp2_with(refine b_ rfl (I7 108 _ rfl (B:=b) (j:=off+k*19) (cs:=_) rfl P.out underlying108 rfl Y0) ?_)
 refine(c35 x J H r wr D O0 A u).mono ?_;rintro e w1⟨⟨y,rfl,hr⟩,F⟩;have s:=P5 c F;by_cases hneg:y<0
 ·clear hr;go_wp2;go_ret;exact⟨V_,s⟩
 have g:=hr O0;have f:Hid (∀i,i<k+1->(is.getD i Vf).le 1048576):=by
  intro i h;rcases P7 i k with h1|h1
  ·exact n.out i h1
  obtain rfl:i=k:=O0;rw[K.out];exact g.1
 have hr2:=g.2;clear hr g;go_wp2;go_roundw;exact⟨k+1,_,O0,by go_num,rfl,O0,O0,f,s⟩;exact P9
theorem c88(a:OA)(I:Nat)(is:List Dd)(l:Int)(w:World)(h0:0<=l)(h1:l<=1048576)(o:∀i,(is.getD i IB).le 9223372036854775807)(hl:is.length<=9223372036854775807)(q:a5f w a is):
 Calls prog 88 #[.slice a is.length I,.int .i64 l] w λe w'=>Sz (is.length<=1048576/\∀i,(is.getD i IB).le 1048576) e/\Bw w w':=by
 obtain⟨b,off,hc⟩:=J8 q;have N:=U0 hc;have L:=U0 o;clear hc q o;by_cases hbig:l<is.length
 ·go_in
  go_wp2;go_ret;exact⟨V_,J4 _ _⟩
 go_in
 go_wp2;go_loopw[1,5] (λz i wr=>∃(k:Nat)(r:Int),k<=is.length/\i=.int .i64 k/\z=.int .i64 r/\0<=r/\r<=1048576/\Hid (∀i,i<k->(is.getD i IB).le 1048576)/\Below w.heap.size w wr) (λ_ i _=>is.length-(RowKit.intOf i).toNat);exact⟨0,_,I4 _,rfl,rfl,O0,O0,λi h=>absurd h (U7 _),J4 _ _⟩;obtain⟨k,r,hk,rfl,rfl,D,C,n,c⟩:=hrel;by_cases m:k<is.length;rotate_left
 ·have f:Hid (∀i,(is.getD i IB).le 1048576):=U0 (Oz (is:=is) (d:=IB) (R:=λx=>x.le 1048576) (a0x _) (λi h=>n.out i O0));go_wp2;go_ret;exact⟨⟨r,rfl,λ_=>⟨⟨O0,f.out⟩,C⟩⟩,c⟩
 obtain⟨ha,E,p⟩:=N.out.resolve_left (λh=>by rw[h]at m;exact absurd m (U7 _));subst ha;obtain⟨p0,v,t⟩:=p k m;have P:=U0 (v.below E c);have O:=U0 (Ot _ _ _ t c);clear v t;have A:=L.out k;generalize hx:is.getD k IB=x at*;have K:=U0 hx;clear hx p;obtain⟨J,H,e0,u⟩:=O.out;dsimp only at e0 u;subst e0
 go_wp2_with(refine b_ rfl (I7 241 _ rfl (B:=b) (j:=off+k*8) (cs:=_) rfl P.out underlying241 rfl Y0) ?_)
 refine(c146 x J H r wr D O0 A u).mono ?_;rintro e w1⟨⟨y,rfl,hr⟩,F⟩;have s:=P5 c F;by_cases hneg:y<0
 ·clear hr;go_wp2;go_ret;exact⟨V_,s⟩
 have g:=hr O0;have f:Hid (∀i,i<k+1->(is.getD i IB).le 1048576):=by
  intro i h;rcases P7 i k with h1|h1
  ·exact n.out i h1
  obtain rfl:i=k:=O0;rw[K.out];exact g.1
 have hr2:=g.2;clear hr g;go_wp2;go_roundw;exact⟨k+1,_,O0,by go_num,rfl,O0,O0,f,s⟩;exact P9
theorem c11(a:OA)(D:Nat)(is:List Pc)(l:Int)(w:World)(h0:0<=l)(h1:l<=1048576)(o:∀i,(is.getD i Vu).le 9223372036854775807)(hl:is.length<=9223372036854775807)(q:Qq w a is):
 Calls prog 11 #[.slice a is.length D,.int .i64 l] w λe w'=>Sz (is.length<=1048576/\∀i,(is.getD i Vu).le 1048576) e/\Bw w w':=by
 obtain⟨b,off,hc⟩:=J8 q;have H:=U0 hc;have F:=U0 o;clear hc q o;by_cases hbig:l<is.length
 ·go_in
  go_wp2;go_ret;exact⟨V_,J4 _ _⟩
 go_in
 go_wp2;go_loopw[1,5] (λu i wr=>∃(k:Nat)(r:Int),k<=is.length/\i=.int .i64 k/\u=.int .i64 r/\0<=r/\r<=1048576/\Hid (∀i,i<k->(is.getD i Vu).le 1048576)/\Below w.heap.size w wr) (λ_ i _=>is.length-(RowKit.intOf i).toNat);exact⟨0,_,I4 _,rfl,rfl,O0,O0,λi h=>absurd h (U7 _),J4 _ _⟩;obtain⟨k,r,hk,rfl,rfl,z,y,n,m⟩:=hrel;by_cases g:k<is.length;rotate_left
 ·have c:Hid (∀i,(is.getD i Vu).le 1048576):=U0 (Oz (is:=is) (d:=Vu) (R:=λx=>x.le 1048576) (a2a _) (λi h=>n.out i O0));go_wp2;go_ret;exact⟨⟨r,rfl,λ_=>⟨⟨O0,c.out⟩,y⟩⟩,m⟩
 obtain⟨ha,A,p⟩:=H.out.resolve_left (λh=>by rw[h]at g;exact absurd g (U7 _));subst ha;have I:=U0 ((p k g).below A m);have v:=F.out k;generalize hx:is.getD k Vu=x at*;have E:=U0 hx;clear hx p
 go_wp2_with(refine b_ rfl (I7 110 _ rfl (B:=b) (j:=off+k*3) (cs:=oD x) rfl I.out underlying110 rfl Y0) ?_)
 refine(c36 x r wr z O0 v).mono ?_;rintro e w1⟨⟨t,rfl,hr⟩,C⟩;have s:=P5 m C;by_cases hneg:t<0
 ·clear hr;go_wp2;go_ret;exact⟨V_,s⟩
 have f:=hr O0;have c:Hid (∀i,i<k+1->(is.getD i Vu).le 1048576):=by
  intro i h;rcases P7 i k with h1|h1
  ·exact n.out i h1
  obtain rfl:i=k:=O0;rw[E.out];exact f.1
 have hr2:=f.2;clear hr f;go_wp2;go_roundw;exact⟨k+1,_,O0,by go_num,rfl,O0,O0,c,s⟩;exact P9
theorem c37(x:An)(fa b:OA)(fc f:Nat)(l:Int)(w:World)(h0:0<=l)(h1:l<=1048576)(I:x.le 9223372036854775807)(A:T.U5 w fa x.fs)(z:a5f w b x.ds):
 Calls prog 37 #[.agg #[.string x.nm,.slice fa x.fs.length fc,.int .i64 x.cd,.string x.tx,.slice b x.ds.length f],.int .i64 l] w λe w'=>Sz (x.le 1048576) e/\Bw w w':=by
 obtain⟨s0,⟨H,y⟩,F,E,v⟩:=I;have N:=U0 y;have P:=U0 v;have O:=U0 A;have L:=U0 z;clear y v A z
 go_in
 go_upto_region 1 with fail
 have c:=U0 (U3 w [.string x.nm,.slice fa x.fs.length fc,.int .i64 x.cd,.string x.tx,.slice b x.ds.length f] 114);have q:=U0 (P6 (w:=w) (o:=.cells #[.string x.nm,.slice fa x.fs.length fc,.int .i64 x.cd,.string x.tx,.slice b x.ds.length f] 114));generalize w.alloc (.cells #[.string x.nm,.slice fa x.fs.length fc,.int .i64 x.cd,.string x.tx,.slice b x.ds.length f] 114)=K at*;by_cases g1:l<x.nm.size
 ·go_wp2_with(first|(refine G5 c.out rfl _ _ rfl rfl rfl Y0 ?_))
  go_ret;exact⟨V_,q.out⟩
 go_wp2_with(first|(refine O8 c.out rfl 27 _ rfl (j:=1) [.slice fa x.fs.length fc] rfl rfl underlying27 rfl Y0 ?_)|(refine G5 c.out rfl _ _ rfl rfl rfl Y0 ?_))
 refine(c29 fa fc x.fs (l-x.nm.size) K O0 O0 N.out H (T.X4 O.out q.out)).mono ?_;rintro e V1⟨⟨k,rfl,hr⟩,a⟩;have C:=U0 hr;have u:=U0 (P5 q.out a);have g:=U0 (c.out.below a c.out.lt);clear hr a c q;by_cases d:k<0
 ·go_wp2;go_ret;exact⟨V_,u.out⟩
 have m:=C.out O0;have R:=U0 (And.intro m.1 m.2.1);have e1:k<=1048576:=by have:=m.2.2;omega
 have n1:0<=k:=O0;clear C m d
 go_wp2_with(first|(refine O8 g.out rfl 102 _ rfl (j:=2) [.int .i64 x.cd,.string x.tx] rfl rfl underlying102 rfl Y0 ?_)|(refine G5 g.out rfl _ _ rfl rfl rfl Y0 ?_))
 refine(c87 x.cd x.tx (k) V1 F O0 O0).mono ?_;rintro e J⟨⟨i,rfl,hr⟩,a⟩;have B:=U0 hr;have p:=U0 (P5 u.out a);have n:=U0 (g.out.below a g.out.lt);clear hr a g u;by_cases d:i<0
 ·go_wp2;go_ret;exact⟨V_,p.out⟩
 have t:=B.out O0;have F2:=U0 t.1;have e2:i<=1048576:=by have:=t.2;omega
 have n2:0<=i:=O0;clear B t d
 go_wp2_with(first|(refine G5 n.out rfl _ _ rfl rfl rfl Y0 ?_))
 refine(c88 b f x.ds (i) J O0 O0 P.out E (Ja Ot L.out p.out)).mono ?_;rintro e V3⟨⟨r,rfl,hr⟩,a⟩;have R3:=U0 hr;have D:=U0 (P5 p.out a);have S:=U0 (n.out.below a n.out.lt);clear hr a n p;by_cases d:r<0
 ·go_wp2;go_ret;exact⟨V_,D.out⟩
 have s:=R3.out O0;have Q:=U0 s.1;have e3:r<=1048576:=by have:=s.2;omega
 have n3:0<=r:=O0;clear R3 s d
 go_wp2_with(first|(refine G5 S.out rfl _ _ rfl rfl rfl Y0 ?_))
 go_ret;exact⟨⟨_,rfl,λh=>⟨⟨O0,R.out,F2.out,Q.out⟩,O0⟩⟩,D.out⟩
theorem c12(a:OA)(N:Nat)(is:List An)(l:Int)(w:World)(h0:0<=l)(h1:l<=1048576)(o:∀i,(is.getD i AB).le 9223372036854775807)(hl:is.length<=9223372036854775807)(q:AnsAt w a is):
 Calls prog 12 #[.slice a is.length N,.int .i64 l] w λe w'=>Sz (is.length<=1048576/\∀i,(is.getD i AB).le 1048576) e/\Bw w w':=by
 obtain⟨b,off,hc⟩:=J8 q;have Q:=U0 hc;have P:=U0 o;clear hc q o;by_cases hbig:l<is.length
 ·go_in
  go_wp2;go_ret;exact⟨V_,J4 _ _⟩
 go_in
 go_wp2;go_loopw[1,5] (λD i wr=>∃(k:Nat)(r:Int),k<=is.length/\i=.int .i64 k/\D=.int .i64 r/\0<=r/\r<=1048576/\Hid (∀i,i<k->(is.getD i AB).le 1048576)/\Below w.heap.size w wr) (λ_ i _=>is.length-(RowKit.intOf i).toNat);exact⟨0,_,I4 _,rfl,rfl,O0,O0,λi h=>absurd h (U7 _),J4 _ _⟩;obtain⟨k,r,hk,rfl,rfl,H,F,n,c⟩:=hrel;by_cases m:k<is.length;rotate_left
 ·have f:Hid (∀i,(is.getD i AB).le 1048576):=U0 (Oz (is:=is) (d:=AB) (R:=λx=>x.le 1048576) (a2c _) (λi h=>n.out i O0));go_wp2;go_ret;exact⟨⟨r,rfl,λ_=>⟨⟨O0,f.out⟩,F⟩⟩,c⟩
 obtain⟨ha,I,p⟩:=Q.out.resolve_left (λh=>by rw[h]at m;exact absurd m (U7 _));subst ha;obtain⟨C,y,t⟩:=p k m;have U:=U0 (y.below I c);have S:=U0 (wu _ _ _ t c);clear y t;have E:=P.out k;generalize hx:is.getD k AB=x at*;have O:=U0 hx;clear hx p;obtain⟨⟨fa,fc,e1,u⟩,L,K,z,v⟩:=S.out;obtain⟨p1,p2⟩:=C;dsimp only at e1 z u v;subst e1 z
 go_wp2_with(refine b_ rfl (I7 114 _ rfl (B:=b) (j:=off+k*5) (cs:=_) rfl U.out underlying114 rfl Y0) ?_)
 refine(c37 x fa L fc K r wr H O0 E u v).mono ?_;rintro e w1⟨⟨A,rfl,hr⟩,J⟩;have s:=P5 c J;by_cases hneg:A<0
 ·clear hr;go_wp2;go_ret;exact⟨V_,s⟩
 have g:=hr O0;have f:Hid (∀i,i<k+1->(is.getD i AB).le 1048576):=by
  intro i h;rcases P7 i k with h1|h1
  ·exact n.out i h1
  obtain rfl:i=k:=O0;rw[O.out];exact g.1
 have hr2:=g.2;clear hr g;go_wp2;go_roundw;exact⟨k+1,_,O0,by go_num,rfl,O0,O0,f,s⟩;exact P9
theorem c4(x:Wd)(q:Wa)(l:Int)(w:World)(h0:0<=l)(h1:l<=1048576)(p:SB x 9223372036854775807)(F:Qx w x q):
 Calls prog 4 #[.agg #[.string x.ky,.int .i64 x.b.wd,.bool x.b.up,.int .i64 x.b.now,.int .i64 x.b.ep,.int .i64 x.b.ed,.slice q.q.sa x.b.sf.length q.q.sc,.slice q.q.la x.b.lo.length q.q.lc,.slice q.q.fa x.b.fs.length q.q.fc,.int .i64 x.b.s.wd,.slice q.q.ta x.b.s.ts.length q.q.tc,.slice q.q.ra x.b.s.rs.length q.q.rc,.slice q.q.ha x.b.hd.length q.q.hc,.slice q.q.oa x.b.rt.length q.q.oc,.slice q.q.na x.b.rn.length q.q.nc,.slice q.q.ja x.b.jb.length q.q.jc,.slice q.wa x.ws.length q.wc,.slice q.pa x.fl.length q.pc,.string x.fg,.slice q.aa x.an.length q.ac],.int .i64 l] w λe w'=>Sz (SB x 1048576/\x.b.sf.length+x.b.lo.length<=1048576) e/\Bw w w':=by
 have r:=U0 F;have d:=U0 p;have sk:=p.ky;have sg:=p.fg;clear F p
 go_in
 go_upto_region 1 with fail
 have f:=U0 (U3 w [.string x.ky,.int .i64 x.b.wd,.bool x.b.up,.int .i64 x.b.now,.int .i64 x.b.ep,.int .i64 x.b.ed,.slice q.q.sa x.b.sf.length q.q.sc,.slice q.q.la x.b.lo.length q.q.lc,.slice q.q.fa x.b.fs.length q.q.fc,.int .i64 x.b.s.wd,.slice q.q.ta x.b.s.ts.length q.q.tc,.slice q.q.ra x.b.s.rs.length q.q.rc,.slice q.q.ha x.b.hd.length q.q.hc,.slice q.q.oa x.b.rt.length q.q.oc,.slice q.q.na x.b.rn.length q.q.nc,.slice q.q.ja x.b.jb.length q.q.jc,.slice q.wa x.ws.length q.wc,.slice q.pa x.fl.length q.pc,.string x.fg,.slice q.aa x.an.length q.ac] 40);have z:=U0 (P6 (w:=w) (o:=.cells #[.string x.ky,.int .i64 x.b.wd,.bool x.b.up,.int .i64 x.b.now,.int .i64 x.b.ep,.int .i64 x.b.ed,.slice q.q.sa x.b.sf.length q.q.sc,.slice q.q.la x.b.lo.length q.q.lc,.slice q.q.fa x.b.fs.length q.q.fc,.int .i64 x.b.s.wd,.slice q.q.ta x.b.s.ts.length q.q.tc,.slice q.q.ra x.b.s.rs.length q.q.rc,.slice q.q.ha x.b.hd.length q.q.hc,.slice q.q.oa x.b.rt.length q.q.oc,.slice q.q.na x.b.rn.length q.q.nc,.slice q.q.ja x.b.jb.length q.q.jc,.slice q.wa x.ws.length q.wc,.slice q.pa x.fl.length q.pc,.string x.fg,.slice q.aa x.an.length q.ac] 40));generalize w.alloc (.cells #[.string x.ky,.int .i64 x.b.wd,.bool x.b.up,.int .i64 x.b.now,.int .i64 x.b.ep,.int .i64 x.b.ed,.slice q.q.sa x.b.sf.length q.q.sc,.slice q.q.la x.b.lo.length q.q.lc,.slice q.q.fa x.b.fs.length q.q.fc,.int .i64 x.b.s.wd,.slice q.q.ta x.b.s.ts.length q.q.tc,.slice q.q.ra x.b.s.rs.length q.q.rc,.slice q.q.ha x.b.hd.length q.q.hc,.slice q.q.oa x.b.rt.length q.q.oc,.slice q.q.na x.b.rn.length q.q.nc,.slice q.q.ja x.b.jb.length q.q.jc,.slice q.wa x.ws.length q.wc,.slice q.pa x.fl.length q.pc,.string x.fg,.slice q.aa x.an.length q.ac] 40)=R at*;by_cases g1:l<x.ky.size
 ·go_wp2_with(first|(refine G5 f.out rfl _ _ rfl rfl rfl Y0 ?_))
  go_ret;exact⟨V_,z.out⟩
 go_wp2_with(first|(refine O8 f.out rfl 35 _ rfl (j:=1) [.int .i64 x.b.wd,.bool x.b.up,.int .i64 x.b.now,.int .i64 x.b.ep,.int .i64 x.b.ed,.slice q.q.sa x.b.sf.length q.q.sc,.slice q.q.la x.b.lo.length q.q.lc,.slice q.q.fa x.b.fs.length q.q.fc,.int .i64 x.b.s.wd,.slice q.q.ta x.b.s.ts.length q.q.tc,.slice q.q.ra x.b.s.rs.length q.q.rc,.slice q.q.ha x.b.hd.length q.q.hc,.slice q.q.oa x.b.rt.length q.q.oc,.slice q.q.na x.b.rn.length q.q.nc,.slice q.q.ja x.b.jb.length q.q.jc] rfl rfl underlying35 rfl Y0 ?_)|(refine G5 f.out rfl _ _ rfl rfl rfl Y0 ?_))
 refine(c9 x.b q.q (l-x.ky.size) R O0 O0 d.out.b (r.out.b.below z.out)).mono ?_;rintro e V1⟨⟨n,rfl,hr⟩,a⟩;have J:=U0 hr;have y:=U0 (P5 z.out a);have u:=U0 (f.out.below a f.out.lt);clear hr a f z;by_cases c:n<0
 ·go_wp2;go_ret;exact⟨V_,y.out⟩
 have E:=J.out O0;have N:=U0 E.1;have e1:n<=1048576:=by have:=E.2;omega
 have n1:0<=n:=O0;clear J E c
 go_wp2_with(first|(refine G5 u.out rfl _ _ rfl rfl rfl Y0 ?_))
 refine(c10 q.wa q.wc x.ws (n) V1 O0 O0 d.out.ws d.out.wl (Ja Zn r.out.ws y.out)).mono ?_;rintro e Q⟨⟨m,rfl,hr⟩,a⟩;have I:=U0 hr;have v:=U0 (P5 y.out a);have t:=U0 (u.out.below a u.out.lt);clear hr a u y;by_cases c:m<0
 ·go_wp2;go_ret;exact⟨V_,v.out⟩
 have D:=I.out O0;have F2:=U0 D.1;have e2:m<=1048576:=by have:=D.2;omega
 have n2:0<=m:=O0;clear I D c
 go_wp2_with(first|(refine G5 t.out rfl _ _ rfl rfl rfl Y0 ?_))
 refine(c11 q.pa q.pc x.fl (m) Q O0 O0 d.out.ps d.out.pl (zl r.out.fl v.out)).mono ?_;rintro e P⟨⟨g,rfl,hr⟩,a⟩;have R3:=U0 hr;have k:=U0 (P5 v.out a);have i:=U0 (t.out.below a t.out.lt);clear hr a t v;by_cases c:g<0
 ·go_wp2;go_ret;exact⟨V_,k.out⟩
 have C:=R3.out O0;have L:=U0 C.1;have e3:g<=1048576:=by have:=C.2;omega
 have n3:0<=g:=O0;clear R3 C c;by_cases g2:g<x.fg.size
 ·go_wp2_with(first|(refine G5 i.out rfl _ _ rfl rfl rfl Y0 ?_))
  go_ret;exact⟨V_,k.out⟩
 go_wp2_with(first|(refine G5 i.out rfl _ _ rfl rfl rfl Y0 ?_))
 refine(c12 q.aa q.ac x.an (g-x.fg.size) P O0 O0 d.out.az d.out.al (Ja wu r.out.an k.out)).mono ?_;rintro e V4⟨⟨A,rfl,hr⟩,a⟩;have H:=U0 hr;have O:=U0 (P5 k.out a);have S:=U0 (i.out.below a i.out.lt);clear hr a i k;by_cases c:A<0
 ·go_wp2;go_ret;exact⟨V_,O.out⟩
 have B:=H.out O0;have K:=U0 B.1;have e4:A<=1048576:=by have:=B.2;omega
 have n4:0<=A:=O0;clear H B c
 go_wp2_with(first|(refine G5 S.out rfl _ _ rfl rfl rfl Y0 ?_))
 go_ret;exact⟨⟨_,rfl,λh=>⟨⟨⟨O0,N.out.1,F2.out.1,F2.out.2,L.out.1,L.out.2,O0,K.out.1,K.out.2⟩,N.out.2⟩,O0⟩⟩,O.out⟩
